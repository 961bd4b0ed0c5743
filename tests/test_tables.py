"""Promises [10.1] to [10.7], and the words [0.11]: tables, couples or strings, changes, how many strings."""

import unittest
from itertools import combinations, permutations, product
from random import Random
from time import perf_counter

from askedapart.errors import InvalidNumber, InvalidOperation, InvalidTable
from askedapart.sign.tables import (change_to, couples_or_strings, do_bundles_commute, is_change_to, is_couples_or_strings,
                                    is_table, led_table, rank, string_count)
from graph_samples import check_errors
from operator_samples import all_operators, own_is_operator, own_table
from samples import LONG, LONGEST, NOTHING, all_picks, own_span

CHANCE = Random(10)
PATH = ((0, 1), (1, 2))


def all_pairs(many):
    """All pairs of unknowns."""
    return list(combinations(range(many), 2))


def all_tables(many):
    """All tables of so many unknowns."""
    return [lot for size in range(len(all_pairs(many)) + 1) for lot in combinations(all_pairs(many), size)]


def random_table(chance, many, ones=2):
    """A table with one of so many pairs."""
    return tuple(pair for pair in all_pairs(many) if chance.randrange(ones) == 0)


def table_of_rank(chance, many, half):
    """A table of just this rank: the pairs of strings with as many letters, mixed up."""
    while True:
        rows = [[chance.randrange(2) for _ in range(2 * half)] for _ in range(many)]
        table = tuple((e, f) for e, f in all_pairs(many) if sum(
            rows[e][2 * i] * rows[f][2 * i + 1] + rows[e][2 * i + 1] * rows[f][2 * i] for i in range(half)) % 2)
        if own_rank(many, table) == 2 * half:
            return table


def table_rows(many, table):
    """For each unknown the row with 1 at each one with which it makes a pair."""
    return [tuple(int((min(e, f), max(e, f)) in table) for f in range(many)) for e in range(many)]


def own_rank(many, table):
    """How many of the rows are no sums of those ahead, place after place being cleared."""
    rows, found = [list(row) for row in table_rows(many, table)], 0
    for at in range(many):
        head = next((row for row in rows if row[at]), None)
        if head is not None:
            rows = [[a ^ b for a, b in zip(row, head)] if row[at] else row for row in rows if row is not head]
            found += 1
    return found


def own_commute(table, bundle, further):
    """By the words of [10.1]."""
    return sum((min(e, f), max(e, f)) in table for e in bundle for f in further) % 2 == 0


def own_are_couples(table, value):
    """By the words of [10.3], for a tuple of pairs of bundles."""
    bundles = [(at, bundle) for at, couple in enumerate(value) for bundle in couple]
    return all(own_commute(table, one, other) != (at == place) for (at, one), (place, other) in combinations(bundles, 2))


def own_are_strings(many, table, value, number):
    """By the words of [10.3]."""
    length = max(number, 1)
    if len(value) != many or not all(own_is_operator(one) and len(one) == length + 1 and one[0] == "+" for one in value):
        return False
    return own_table(value) == table and (number > 0 or set(value) == {"+I"})


def own_is_change(many, value):
    """By the words of [10.5]: no some of them sum to ()."""
    rows = [tuple(int(e in bundle) for e in range(many)) for bundle in value]
    return len(value) == many and len(own_span(rows, many)) == 2 ** many


def own_led(many, table, change):
    """The table to which a change leads."""
    return tuple((i, j) for i, j in all_pairs(many) if not own_commute(table, change[i], change[j]))


def random_change(chance, many):
    """A change: bundles are put to one another, and change places."""
    held = [{e} for e in range(many)]
    for _ in range(4 * many if many > 1 else 0):
        one, other = chance.sample(range(many), 2)
        held[one] ^= held[other]
    return tuple(tuple(sorted(bundle)) for bundle in chance.sample(held, many))


TABLES = [(many, table) for many in range(1, 5) for table in all_tables(many)]
TABLES += [(many, random_table(CHANCE, many, ones)) for many in (5, 8, 13, 24) for ones in (1, 2, 3, 9) for _ in range(4)]
TABLES += [(many, table_of_rank(CHANCE, many, half)) for many in (6, 24) for half in range(many // 2 + 1)]
TABLES += [(24, ()), (24, tuple(all_pairs(24))), (1, ())]


class Examples(unittest.TestCase):
    def test_examples(self):
        self.assertEqual([rank(3, PATH), do_bundles_commute(3, PATH, (0, 2), (1,))], [2, True])
        self.assertEqual([is_couples_or_strings(3, PATH, 0, ("couples", (((0,), (1,)),))),
                          is_couples_or_strings(3, PATH, 1, ("strings", ("+X", "+Z", "+X")))], [True, True])
        self.assertEqual([led_table(3, PATH, ((0,), (1,), (0, 2))), is_change_to(3, PATH, ((0, 1),), ((0,), (1,), (0, 2))),
                          change_to(3, PATH, ())], [((0, 1),), True, None])
        self.assertEqual([string_count(3, PATH, 1), string_count(3, PATH, 2)], [6, 480])


class Tables(unittest.TestCase):
    def test_is_table(self):
        for many in range(1, 5):
            for table in all_tables(many):
                self.assertIs(is_table(many, table), True)
                for wrong in (table[::-1], table + table, list(table), (*table, (many - 1, many)), (*table, (0, 0)), (table,)):
                    self.assertIs(is_table(many, wrong), wrong == table)
        for value in (((1, 0),), ((0, 1, 2),), ((0,),), ([0, 1],), (0, 1), ((0, True),), ((False, 1),), ((0, LONG),), "01"):
            self.assertIs(is_table(3, value), False)
        for value in NOTHING:
            for many in (1, 3, 24):
                self.assertIs(is_table(many, value), value == ())
        self.assertIs(is_table(24, tuple(all_pairs(24))), True)
        self.assertIs(is_table(23, tuple(all_pairs(24))), False)

    def test_bundles(self):
        for many, table in TABLES:
            for _ in range(6):
                one, other = [tuple(e for e in range(many) if CHANCE.randrange(2)) for _ in range(2)]
                self.assertIs(do_bundles_commute(many, table, one, other), own_commute(table, one, other))
                self.assertIs(do_bundles_commute(many, table, one, one), True)
            self.assertIs(do_bundles_commute(many, table, (), (0,)), True)

    def test_rank(self):
        for many, table in TABLES:
            found = rank(many, table)
            self.assertEqual(found, own_rank(many, table))
            self.assertEqual(found % 2, 0)
            if many <= 5:
                rows = table_rows(many, table)
                self.assertEqual(len(own_span(rows, many)), 2 ** found)
        self.assertEqual((rank(24, tuple(all_pairs(24))), rank(23, tuple(all_pairs(23))), rank(24, ())), (24, 22, 0))


class CouplesOrStrings(unittest.TestCase):
    def test_just_as_the_rank_tells(self):
        words = set()
        for many, table in TABLES:
            for number in range(13) if many != 24 else (0, 1, 5, 11, 12):
                found = couples_or_strings(many, table, number)
                words.add(found[0])
                self.assertEqual(found[0] == "couples", own_rank(many, table) > 2 * number)
                if found[0] == "couples":
                    self.assertEqual(len(found[1]), number + 1)
                    self.assertTrue(all(list(bundle) == sorted(set(bundle)) and set(bundle) <= set(range(many))
                                        for couple in found[1] for bundle in couple))
                    self.assertTrue(own_are_couples(table, found[1]))
                else:
                    self.assertTrue(own_are_strings(many, table, found[1], number))
                self.assertIs(is_couples_or_strings(many, table, number, found), True)
        self.assertEqual(words, {"couples", "strings"})

    def test_no_letters(self):
        self.assertEqual(couples_or_strings(3, (), 0), ("strings", ("+I",) * 3))
        for value, wanted in ((("+I",) * 3, True), (("+X",) * 3, False), (("+I", "+I", "+X"), False), (("-I", "+I", "+I"), False),
                              (("+",) * 3, False), (("+II",) * 3, False), (("+I",) * 2, False), (("+I",) * 4, False)):
            self.assertIs(is_couples_or_strings(3, (), 0, ("strings", value)), wanted)
        self.assertIs(is_couples_or_strings(3, (), 1, ("strings", ("+X",) * 3)), True)
        self.assertIs(is_couples_or_strings(3, PATH, 0, ("strings", ("+I",) * 3)), False)

    def test_all_strings(self):
        counts = set()
        for many in (1, 2, 3):
            for table in all_tables(many):
                for number in (1, 2) if many < 3 else (1,):
                    right = 0
                    for value in product(all_operators(number), repeat=many):
                        wanted = own_are_strings(many, table, value, number)
                        right += wanted
                        self.assertIs(is_couples_or_strings(many, table, number, ("strings", value)), wanted)
                    counts.add(right)
                    self.assertEqual(string_count(many, table, number), right)
        self.assertIn(0, counts | {string_count(4, ((0, 1), (2, 3)), 1)})

    def test_all_couples(self):
        for many in (2, 3):
            bundles = all_picks(many)
            for table in all_tables(many):
                right = 0
                for couple in product(bundles, repeat=2):
                    wanted = own_are_couples(table, (couple,))
                    right += wanted
                    self.assertIs(is_couples_or_strings(many, table, 0, ("couples", (couple,))), wanted)
                self.assertEqual(right > 0, table != ())
        table = ((0, 1), (0, 3), (2, 3))
        judged = []
        for value in product(product(all_picks(4), repeat=2), repeat=2):
            if CHANCE.randrange(8) == 0:
                wanted = own_are_couples(table, value)
                judged.append(wanted)
                self.assertIs(is_couples_or_strings(4, table, 1, ("couples", value)), wanted)
                self.assertIs(is_couples_or_strings(4, table, 0, ("couples", value)), False)
        self.assertEqual(set(judged), {True, False})

    def test_bent_values(self):
        for many, table in TABLES[10::3]:
            for number in (0, 1, 2):
                word, found = couples_or_strings(many, table, number)
                for wrong in (found[1:], found + found[:1], list(found), (found,), None):
                    self.assertIs(is_couples_or_strings(many, table, number, (word, wrong)), False)
                other = {"couples": "strings", "strings": "couples"}[word]
                for wrong in ((other, found), (word,), (word, found, ()), [word, found], found):
                    self.assertIs(is_couples_or_strings(many, table, number, wrong), False)
                if word == "strings" and many > 1:
                    for at in range(min(many, 4)):
                        for worse in ("-" + found[at][1:], found[at] + "I", found[at][:-1], found[at][:-1] + "A", None, (found[at],)):
                            value = (*found[:at], worse, *found[at + 1:])
                            self.assertIs(is_couples_or_strings(many, table, number, (word, value)), False)
                if word == "couples":
                    a, b = found[0]
                    for worse in ((a,), (a, b, b), [a, b], (list(a), b), (a[::-1] + (0,), b), (a, a), ((), b), (a, (many,)), (a, (-1,)),
                                  (a, (True,)), None, (a, None)):
                        self.assertIs(is_couples_or_strings(many, table, number, (word, (worse, *found[1:]))), False)
                    self.assertIs(is_couples_or_strings(many, table, number, (word, ((b, a), *found[1:]))), True)
                    if number:
                        self.assertIs(is_couples_or_strings(many, table, number, (word, (*found[:-1], found[0]))), False)
                        self.assertIs(is_couples_or_strings(many, table, number, (word, found[::-1])), True)

    def test_more_letters_than_asked_for(self):
        # Strings with letters that no couple asks for are right, too.
        value = ("+XXXX", "+ZIII", "+XXIX")
        self.assertIs(is_couples_or_strings(3, PATH, 4, ("strings", value)), True)
        self.assertIs(is_couples_or_strings(3, PATH, 3, ("strings", value)), False)


class Changes(unittest.TestCase):
    def test_led_tables(self):
        for many, table in TABLES:
            change = random_change(CHANCE, many)
            found = led_table(many, table, change)
            self.assertEqual(found, own_led(many, table, change))
            self.assertEqual(own_rank(many, found), own_rank(many, table))
            self.assertIs(is_change_to(many, table, found, change), True)
            self.assertEqual(led_table(many, table, tuple((e,) for e in range(many))), table)

    def test_changes_between_tables(self):
        kinds = {True: 0, False: 0}
        for many, table in TABLES:
            others = [led_table(many, table, random_change(CHANCE, many)), random_table(CHANCE, many), ()]
            others += [CHANCE.choice(TABLES[:75])[1]] if many == 4 else []
            for other in others:
                found = change_to(many, table, other)
                kinds[found is None] += 1
                self.assertEqual(found is None, own_rank(many, table) != own_rank(many, other))
                self.assertIs(is_change_to(many, table, other, found), True)
                if found is not None:
                    self.assertEqual(own_led(many, table, found), other)
                    self.assertTrue(all(list(bundle) == sorted(set(bundle)) for bundle in found))
                    self.assertTrue(many > 8 or own_is_change(many, found))
                    self.assertIs(is_change_to(many, table, other, None), False)
        self.assertGreater(min(kinds.values()), 20)

    def test_all_changes_of_small_tables(self):
        judged = []
        for many in (1, 2, 3):
            for table in all_tables(many):
                for other in all_tables(many):
                    for value in product(all_picks(many), repeat=many):
                        wanted = own_is_change(many, value) and own_led(many, table, value) == other
                        judged.append(wanted)
                        if many < 3 or len(judged) % 5 == 0:
                            self.assertIs(is_change_to(many, table, other, value), wanted)
        self.assertEqual(set(judged), {True, False})

    def test_the_judge(self):
        for many, table in TABLES[20::2]:
            other = led_table(many, table, random_change(CHANCE, many))
            found = change_to(many, table, other)
            for wrong in (found[1:], found + found[:1], list(found), (found,), ("change", found), (found[0], *found[:-1]),
                          ((), *found[1:]), (list(found[0]), *found[1:]), (found[0] + (many,), *found[1:]), (None, *found[1:])):
                wanted = type(wrong) is tuple and wrong == found
                self.assertIs(is_change_to(many, table, other, wrong), wanted)
            if many > 1:
                for value in (found[::-1], found[1:] + found[:1], (tuple(sorted({*found[0]} ^ {*found[1]})), *found[1:])):
                    self.assertIs(is_change_to(many, table, other, value), own_led(many, table, value) == other)
        for value in NOTHING:
            self.assertIs(is_change_to(3, PATH, PATH, value), False)
            self.assertIs(is_change_to(3, PATH, (), value), value is None)
            self.assertIs(is_change_to(1, (), (), value), value == ((0,),))

    def test_speed(self):
        for many, table in ((24, tuple(all_pairs(24))), (24, random_table(CHANCE, 24)), (24, table_of_rank(CHANCE, 24, 12))):
            begun = perf_counter()
            other = led_table(many, table, random_change(CHANCE, many))
            self.assertIs(is_change_to(many, table, other, change_to(many, table, other)), True)
            for number in range(13):
                couples_or_strings(many, table, number)
            self.assertLess(perf_counter() - begun, 3)


class Counts(unittest.TestCase):
    def test_by_going_through_all(self):
        for many, table, number in ((3, PATH, 2), (3, (), 2), (3, tuple(all_pairs(3)), 2), (4, ((0, 1), (2, 3)), 1),
                                    (4, PATH, 1), (4, (), 1), (4, tuple(all_pairs(4)), 1), (4, ((0, 1),), 1), (5, PATH, 1), (2, (), 2)):
            plus = ["+" + "".join(letters) for letters in product("IXYZ", repeat=number)]
            right = sum(own_table(value) == table for value in product(plus, repeat=many))
            self.assertEqual(string_count(many, table, number), right)

    def test_two_couples_by_going_through_all(self):
        plus = ["+" + "".join(letters) for letters in product("IXYZ", repeat=2)]
        apart = {(one, other): own_table((one, other)) != () for one in plus for other in plus}
        counts = {}
        for value in product(plus, repeat=4):
            table = tuple(pair for pair in all_pairs(4) if apart[(value[pair[0]], value[pair[1]])])
            counts[table] = counts.get(table, 0) + 1
        for table in all_tables(4):
            self.assertEqual(string_count(4, table, 2), counts.get(table, 0))
        self.assertEqual((string_count(4, ((0, 1), (2, 3)), 2), sum(counts.values())), (720, 16 ** 4))

    def test_of_any_number_of_letters(self):
        # All tables together have all tuples of strings.
        for many, number in ((4, 3), (4, 7), (5, 4), (3, 12), (5, 12)):
            ranks = {}
            for table in all_tables(many):
                ranks.setdefault(own_rank(many, table), []).append(table)
            total = sum(len(tables) * string_count(many, tables[0], number) for tables in ranks.values())
            self.assertEqual(total, 4 ** (many * number))

    def test_none_below_the_rank(self):
        for many, table in TABLES:
            half = own_rank(many, table) // 2
            for number in range(1, 13):
                self.assertEqual(string_count(many, table, number) == 0, number < half)
        self.assertEqual(string_count(24, (), 12), string_count(24, (), 12))
        self.assertGreater(string_count(24, (), 12), 10 ** 60)
        self.assertEqual(string_count(1, (), 12), 4 ** 12)

    def test_the_same_for_tables_of_one_rank(self):
        for many in (4, 5):
            counts = {}
            for table in all_tables(4) if many == 4 else [random_table(CHANCE, 5) for _ in range(30)]:
                counts.setdefault(own_rank(many, table), set()).add(string_count(many, table, 3))
            self.assertTrue(all(len(found) == 1 for found in counts.values()))


class NoneOfTheseIsTrue(unittest.TestCase):
    def test_more_pairs_and_a_lesser_rank(self):
        self.assertGreater(rank(4, ((0, 1), (2, 3))), rank(4, ((0, 1), (0, 2), (0, 3))))

    def test_one_rank_but_not_by_other_names(self):
        one, other = ((0, 1),), PATH
        self.assertEqual(rank(3, one), rank(3, other))
        named = {tuple(sorted(tuple(sorted((order[a], order[b]))) for a, b in other)) for order in permutations(range(3))}
        self.assertNotIn(one, named)
        self.assertIsNotNone(change_to(3, one, other))


class WrongArguments(unittest.TestCase):
    MANY = (None, True, False, 0, -1, 25, LONG, -LONG, LONGEST, "3", "", (3,), [3], {}, {3: 3})
    TABLE = (*[value for value in NOTHING if value != ()], ((1, 0),), ((0, 3),), ((0, 1), (0, 1)), ((1, 2), (0, 1)), [(0, 1)],
             ((0, True),), ((0, LONG),), ((0, 1, 2),), ([0, 1],))
    BUNDLE = (*[value for value in NOTHING if value not in ((), (0,), (2, 1), (0, 1))], (1, 0), (0, 0), (3,), [0], (False,), (0, LONG))
    NUMBER = (None, True, False, -1, 13, LONG, LONGEST, "1", (1,), [1], {}, -LONG)

    def test_wrong_arguments(self):
        many = {0: (InvalidNumber, self.MANY)}
        table = {**many, 1: (InvalidTable, self.TABLE)}
        bundles = {**table, 2: (InvalidOperation, self.BUNDLE), 3: (InvalidOperation, self.BUNDLE)}
        number = {**table, 2: (InvalidNumber, self.NUMBER)}
        change = {**table, 2: (InvalidOperation, (*NOTHING, ((0,), (1,)), ((0,), (1,), (0, 1)), ((0,), (1,), ()), [(0,), (1,), (2,)],
                                                  ((0,), (1,), (2, 1)), ((0,), (1,), (3,)), ((0,), (1,), (True,)), ((0,), (1,), 2),
                                                  ((0,), (1,), (2,), (0, 1)), ((0,), (0,), (2,))))}
        tables = {**table, 2: (InvalidTable, self.TABLE)}
        for call, good, bad in (
                (is_table, (3, None), many), (rank, (3, PATH), table), (do_bundles_commute, (3, PATH, (), (0,)), bundles),
                (couples_or_strings, (3, PATH, 1), number), (is_couples_or_strings, (3, PATH, 1, None), number),
                (led_table, (3, PATH, ((0,), (1,), (2,))), change), (change_to, (3, PATH, PATH), tables),
                (is_change_to, (3, PATH, PATH, None), tables),
                (string_count, (3, PATH, 1), {**table, 2: (InvalidNumber, (0, *self.NUMBER))})):
            check_errors(call, good, bad)

    def test_the_judged_value_is_never_an_error(self):
        for value in (*NOTHING, ("couples", None), ("couples", (None,)), ("couples", ((None, None),)), ("couples", (((0,), {}),)),
                      ("couples", [((0,), (1,))]), ("couples", (((0,), (True,)),)), ("strings", None), ("strings", "+X"),
                      ("strings", ["+X", "+Z", "+X"]), ("strings", ("+X", "+Z")), ("strings", ("+X", "+Z", "-X")), ("strings", (1, 2, 3)),
                      ("strings", ("+X", "+Z", "+Z")), ("couples", ()), ("strings", ())):
            for number in (0, 1, 12):
                self.assertIs(is_couples_or_strings(3, PATH, number, value), False)

    def test_nothing_is_changed_and_equal_calls_return_equal_results(self):
        for many, table in TABLES[::5]:
            self.assertEqual(couples_or_strings(many, table, 2), couples_or_strings(many, table, 2))
            self.assertEqual(change_to(many, table, table), change_to(many, table, table))


if __name__ == "__main__":
    unittest.main()
