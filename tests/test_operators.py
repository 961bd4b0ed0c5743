"""Promises [9.1] to [9.5], and the words [0.10]: operators, products, quarter turns, rows led to one another."""

import unittest
from itertools import combinations, permutations, product as choices
from random import Random
from time import perf_counter

from askedapart.errors import InvalidOperation, InvalidOperator
from askedapart.sign.operators import (bits_of, do_commute, is_led_or_unlike, is_operator, led_or_unlike, product, product_of,
                                       quarter, times)
from graph_samples import check_errors
from operator_samples import (LETTERS, NO_OPERATOR, NO_ROW, TEN, all_operators, negated, own_commute, own_is_operator, own_led,
                              own_quarter, own_times, random_operator, random_operators)
from samples import LONG, LONGEST, NOTHING, SQUARE, all_picks, caught

CHANCE = Random(9)
PAIRS = [(one, other) for length in (1, 2) for one in all_operators(length) for other in all_operators(length)]
LONGER = [random_operators(CHANCE, 2, CHANCE.randint(3, 12), CHANCE.randrange(4)) for _ in range(400)]


def rows_of_any_kind(many=120):
    """Rows, with dependent ones, and equal ones, from one to 24 operators of one to twelve letters."""
    found = [("+I",), ("-I",), ("+" + "I" * 12,) * 24, ("-" + "I" * 12,), LETTERS, TEN, ("+X",) * 24]
    for k in range(many):
        length = 12 if k % 4 == 0 else CHANCE.randint(1, 12)
        size = 24 if k % 5 == 0 else CHANCE.randint(1, 24)
        row = list(random_operators(CHANCE, size, length, CHANCE.randrange(6)))
        for at in range(2, size):
            if CHANCE.randrange(3) == 0:
                one, other = CHANCE.sample(row[:at], 2)
                row[at] = CHANCE.choice("+-") + own_times(one, other)[1]
        found.append(tuple(row))
    return found


ROWS = rows_of_any_kind()


def own_is_led(row, others, value):
    """By the words of [9.4], for values of the kinds told."""
    if value[0] == "led":
        return own_led(row, value[1]) == others
    if value[0] == "pair":
        return own_commute(row[value[1]], row[value[2]]) != own_commute(others[value[1]], others[value[2]])
    one, other = [own_times(*[some[at] for at in value[1]]) for some in (row, others)]
    return one != other and any(set(letters) == {"I"} for _, letters in (one, other))


class Examples(unittest.TestCase):
    def test_examples(self):
        self.assertEqual([times("+X", "+Y"), product("+XX", "+ZZ"), quarter("+Z", "+X"), product_of(LETTERS, (2, 5, 8))],
                         [(1, "+Z"), "-YY", "+Y", (2, "+II")])
        self.assertEqual([bits_of("-XYZ"), do_commute("+XZ", "+ZX"), led_or_unlike(("+X", "+X"), ("+X", "-X"))],
                         [(1, (1, 1, 0), (0, 1, 1)), True, ("lot", (0, 1))])
        self.assertEqual([is_led_or_unlike(("+X",), ("+Y",), ("led", (by,))) for by in ("+Z", "-Z")], [False, True])
        caught(InvalidOperation, product, "+X", "+Y")


class Operators(unittest.TestCase):
    def test_is_operator(self):
        for length in range(0, 5):
            for letters in choices("+-IXYZ", repeat=length):
                value = "".join(letters)
                self.assertIs(is_operator(value), own_is_operator(value))
        for length in range(0, 16):
            for letter in "IXYZAx +":
                self.assertIs(is_operator("+" + letter * length), letter in "IXYZ" and 1 <= length <= 12)
        for value in NO_OPERATOR:
            self.assertIs(is_operator(value), False)

    def test_bits(self):
        bits = {"I": (0, 0), "X": (1, 0), "Z": (0, 1), "Y": (1, 1)}
        for operator in [one for pair in LONGER for one in pair] + all_operators(2):
            pairs = [bits[letter] for letter in operator[1:]]
            self.assertEqual(bits_of(operator), (int(operator[0] == "-"), tuple(a for a, _ in pairs), tuple(b for _, b in pairs)))

    def test_commuting(self):
        for one, other in [*PAIRS, *LONGER]:
            if len(one) == len(other):
                wanted = own_commute(one, other)
                self.assertIs(do_commute(one, other), wanted)
                _, a, b = bits_of(one)
                _, c, d = bits_of(other)
                self.assertEqual(wanted, sum(x * y for x, y in zip(a + b, d + c)) % 2 == 0)

    def test_times(self):
        for one, other in [*PAIRS, *LONGER]:
            if len(one) == len(other):
                power, letters = own_times(one, other)
                self.assertEqual(times(one, other), (power, "+" + letters))
                self.assertEqual(power % 2 == 0, own_commute(one, other))
                if power % 2 == 0:
                    self.assertEqual(product(one, other), "+-"[power // 2] + letters)
                else:
                    caught(InvalidOperation, product, one, other)
                self.assertEqual(times(one, one), (0, "+" + "I" * (len(one) - 1)))
                self.assertEqual(product(one, one), "+" + "I" * (len(one) - 1))

    def test_products_of_rows(self):
        for row in ROWS:
            for _ in range(6):
                indices = tuple(sorted(CHANCE.sample(range(len(row)), CHANCE.randint(1, len(row)))))
                power, letters = own_times(*[row[at] for at in indices])
                self.assertEqual(product_of(row, indices), (power, "+" + letters))
        self.assertEqual(product_of(("-Y",), (0,)), (2, "+Y"))


class Quarters(unittest.TestCase):
    def test_quarters(self):
        for one, other in [*PAIRS, *LONGER]:
            if len(one) == len(other):
                found = quarter(one, other)
                self.assertEqual(found, own_quarter(one, other))
                twice = quarter(found, other)
                self.assertEqual(twice, one if own_commute(one, other) else negated(one))

    def test_products_are_led_to_products(self):
        for _ in range(300):
            one, other, by = random_operators(CHANCE, 3, CHANCE.randint(1, 12))
            power, found = times(one, other)
            self.assertEqual(times(quarter(one, by), quarter(other, by)), ((power + 2 * (quarter(found, by)[0] == "-")) % 4,
                                                                             "+" + quarter(found, by)[1:]))


class EitherOr(unittest.TestCase):
    def check(self, row, others):
        """The word of what is told, which is right by its meaning."""
        found = led_or_unlike(row, others)
        if found[0] == "led":
            self.assertLessEqual(len(found[1]), 200)
            self.assertTrue(all(own_is_operator(by) and len(by) == len(row[0]) for by in found[1]))
        elif found[0] == "pair":
            self.assertTrue(0 <= found[1] < found[2] < len(row))
        else:
            self.assertEqual(list(found[1]), sorted(set(found[1])))
        self.assertTrue(own_is_led(row, others, found), (row, others, found))
        self.assertIs(is_led_or_unlike(row, others, found), True)
        return found[0]

    def test_rows_that_quarter_turns_lead(self):
        for row in ROWS:
            for count in (0, 1, 30):
                others = own_led(row, random_operators(CHANCE, count, len(row[0]) - 1))
                self.assertEqual(self.check(row, others), "led")
                self.assertEqual(self.check(others, row), "led")

    def test_one_sign_bent(self):
        words = {"led": 0, "lot": 0}
        for row in ROWS:
            others = list(own_led(row, random_operators(CHANCE, 20, len(row[0]) - 1)))
            at = CHANCE.randrange(len(row))
            others[at] = negated(others[at])
            word = self.check(row, tuple(others))
            words[word] += 1
            # A sign can be bent just where the operator is no product of others.
            free = len(set(all_sums(row))) > len(set(all_sums(row[:at] + row[at + 1:]))) if len(row) < 9 else None
            if free is not None:
                self.assertEqual(word == "led", free)
        self.assertGreater(min(words.values()), 10)

    def test_a_pair_that_commutes_in_one_row_alone(self):
        words = set()
        for row in ROWS:
            others = list(own_led(row, random_operators(CHANCE, 9, len(row[0]) - 1)))
            at = CHANCE.randrange(len(row))
            others[at] = random_operator(CHANCE, len(row[0]) - 1)
            unlike = any(own_commute(row[i], row[j]) != own_commute(others[i], others[j])
                         for i, j in combinations(range(len(row)), 2))
            word = self.check(row, tuple(others))
            words.add(word)
            if unlike:
                self.assertNotEqual(word, "led")
        self.assertEqual(words, {"led", "pair", "lot"})

    def test_a_dependent_lot_in_one_row_alone(self):
        # The same pairs commute, but the product of the three is no power of i in the second row.
        row, others = ("+XI", "+ZI", "+YI"), ("+XI", "+ZI", "+YX")
        self.assertEqual((led_or_unlike(row, others), led_or_unlike(others, row)), (("lot", (0, 1, 2)), ("lot", (0, 1, 2))))
        self.assertIs(is_led_or_unlike(row, others, ("lot", (0, 1, 2))), True)
        # Here it is another power of i.
        self.assertEqual(led_or_unlike(("+X", "+Y", "+Z"), ("+X", "+Y", "-Z")), ("lot", (0, 1, 2)))
        self.assertEqual(led_or_unlike(("+X", "+Y", "+Z"), ("+Y", "+X", "-Z"))[0], "led")
        for some in (("+I",), ("-I",)):
            for more in (("+I",), ("-I",), ("+X",), ("-Z",)):
                word = self.check(some, more)
                self.assertEqual(word, "led" if some == more else "lot")

    def test_all_small_rows(self):
        words = set()
        for size in (1, 2):
            for row in choices(all_operators(1), repeat=size):
                for others in choices(all_operators(1), repeat=size):
                    words.add(self.check(row, others))
        self.assertEqual(words, {"led", "pair", "lot"})
        for row in permutations(("+XI", "-IZ", "+XZ", "-YY", "+ZX", "+II")):
            words.add(self.check(row, ("+XI", "-IZ", "+XZ", "-YY", "+ZX", "+II")))

    def test_never_both(self):
        # Whatever is led keeps all pairs and all lots.
        for row in ROWS[:60]:
            row = row[:6]
            others = own_led(row, random_operators(CHANCE, 12, len(row[0]) - 1))
            for i, j in combinations(range(len(row)), 2):
                self.assertIs(is_led_or_unlike(row, others, ("pair", i, j)), False)
            for lot in all_picks(len(row)):
                self.assertIs(is_led_or_unlike(row, others, ("lot", lot)), False)

    def test_the_judge_of_lots_and_pairs(self):
        judged = []
        for row in ROWS[:80]:
            row = row[:5]
            others = list(own_led(row, random_operators(CHANCE, 5, len(row[0]) - 1)))
            others[-1] = CHANCE.choice((negated(others[-1]), random_operator(CHANCE, len(row[0]) - 1)))
            others = tuple(others)
            for value in [("lot", lot) for lot in all_picks(len(row)) if lot] + [
                    ("pair", i, j) for i, j in combinations(range(len(row)), 2)]:
                wanted = own_is_led(row, others, value)
                judged.append((value[0], wanted))
                self.assertIs(is_led_or_unlike(row, others, value), wanted)
                for wrong in (list(value), value[1:], (*value, 0), (value[0], *value[:0:-1]), (value[0], list(value[1:]))):
                    if wrong != value:
                        self.assertIs(is_led_or_unlike(row, others, wrong), False)
        self.assertEqual(set(judged), {(word, wanted) for word in ("lot", "pair") for wanted in (True, False)})

    def test_the_judge_of_turns(self):
        judged = set()
        for row in ROWS[:60]:
            length = len(row[0]) - 1
            turns = random_operators(CHANCE, CHANCE.randint(0, 12), length)
            others = own_led(row, turns)
            rest = 200 - len(turns)
            # Twice four quarter turns by one operator lead all back.
            back = (random_operator(CHANCE, length),) * (rest - rest % 4)
            for value in (turns, turns + back, back + turns, turns[1:], turns[::-1], turns[:-1], tuple(map(negated, turns)),
                          turns + turns):
                wanted = own_led(row, value) == others
                judged.add(wanted)
                self.assertIs(is_led_or_unlike(row, others, ("led", value)), wanted)
            for value in (list(turns), (*turns, "+" + "I" * (length + 1)), (*turns, None), (turns,), "+" + "I" * length,
                          ("+" + "I" * length,) * 201, turns + ("I" * (length + 1),)):
                self.assertIs(is_led_or_unlike(row, others, ("led", value)), False)
            self.assertIs(is_led_or_unlike(row, row, ("led", ("+" + "I" * length,) * 200)), True)
        self.assertEqual(judged, {True, False})
        # 200 turns are let, one more is not.
        self.assertIs(is_led_or_unlike(("+X",), ("+X",), ("led", ("+Z",) * 200)), True)
        self.assertIs(is_led_or_unlike(("+X",), ("+X",), ("led", ("+Z",) * 204)), False)
        self.assertIs(is_led_or_unlike(("+X",), ("+X",), ("led", ("+X",) * 201)), False)

    def test_at_the_bounds(self):
        for seed in range(6):
            chance = Random(seed)
            row = random_operators(chance, 24, 12)
            others = own_led(row, random_operators(chance, 60, 12))
            begun = perf_counter()
            self.assertEqual(self.check(row, others), "led")
            self.assertLess(perf_counter() - begun, 2)


def all_sums(row):
    """The letters of the products of all lots."""
    return [own_times("+" + "I" * (len(row[0]) - 1), *[row[at] for at in lot])[1] for lot in all_picks(len(row))] if row else ["I"]


class NoneOfTheseIsTrue(unittest.TestCase):
    def test_none_of_these_is_true(self):
        # Operators may commute that do not at single qubits.
        self.assertTrue(do_commute("+XZ", "+ZX") and not do_commute("+X", "+Z"))
        # What commutes with one of two that commute need not with the other one.
        self.assertTrue(do_commute("+XI", "+II") and do_commute("+ZI", "+II") and not do_commute("+ZI", "+XI"))
        # Rows in which the same pairs commute need not be led to one another.
        self.assertEqual(led_or_unlike(("+X", "+X"), ("+X", "-X")), ("lot", (0, 1)))
        self.assertEqual(led_or_unlike(("+XI", "+XI"), ("+XI", "+IX")), ("lot", (0, 1)))


class WrongArguments(unittest.TestCase):
    def test_wrong_arguments(self):
        two = {0: (InvalidOperator, NO_OPERATOR), 1: (InvalidOperator, NO_OPERATOR)}
        rows = {0: (InvalidOperator, NO_ROW), 1: (InvalidOperator, NO_ROW)}
        indices = {0: (InvalidOperator, NO_ROW), 1: (InvalidOperation, (
            *[value for value in NOTHING if value not in ((0,), (0, 1), (2,))], (), (1, 0), (0, 0), (9,), [0], (0, True), (False,),
            (0, LONG), (LONGEST,), (-1, 0), ("0",)))}
        for call, good, bad in (
                (bits_of, ("+X",), {0: two[0]}), (do_commute, ("+XY", "+XX"), two), (times, ("+XY", "+XX"), two),
                (product, ("+XX", "+ZZ"), two), (quarter, ("+XX", "+ZZ"), two), (product_of, (LETTERS, (0,)), indices),
                (led_or_unlike, (LETTERS, LETTERS), rows), (is_led_or_unlike, (LETTERS, LETTERS, None), rows)):
            check_errors(call, good, bad)

    def test_unlike_lengths_come_behind(self):
        for call in (do_commute, times, product, quarter):
            caught(InvalidOperation, call, "+X", "+XX")
            caught(InvalidOperator, call, "+X", "+XXA")
            caught(InvalidOperator, call, "X", "+XX")
        for call, more in ((led_or_unlike, ()), (is_led_or_unlike, (None,))):
            caught(InvalidOperation, call, ("+X",), ("+XX",), *more)
            caught(InvalidOperation, call, ("+X",), ("+X", "+X"), *more)
            caught(InvalidOperator, call, ("+X",), ("+XX", "+X"), *more)
            caught(InvalidOperator, call, ("+X",) * 25, ("+XX",), *more)

    def test_the_judged_value_is_never_an_error(self):
        for value in (*NO_OPERATOR, *NO_ROW, ("led", None), ("led", ["+XX"]), ("led", (None,)), ("led", ("+X",)), ("led", "+XX"),
                      ("led", (SQUARE,)), ("pair", 0, None), ("pair", True, 2), ("pair", 0), ("pair", 1, 0), ("pair", 0, 9),
                      ("pair", 0, 0), ("pair", (0,), (1,)), ("pair", -1, 0), ("pair", 0, LONG), ("lot", ()), ("lot", (9,)),
                      ("lot", [0]), ("lot", (True,)), ("lot", (1, 0)), ("lot", None), ("lot", 0), ("lot", (0, 0)), ("what", ())):
            self.assertIs(is_led_or_unlike(LETTERS, LETTERS, value), False)
        self.assertIs(is_led_or_unlike(LETTERS, LETTERS, ("led", ())), True)
        row, others = ("+X", "+X", "+X"), ("+X", "+X", "+Z")
        for value, wanted in ((("pair", 1, 2), True), (("pair", True, 2), False), (("pair", None, 2), False), (("pair", "1", 2), False),
                              (("pair", (1,), 2), False), (("pair", -2, 2), False), (("pair", 1, -1), False), (("pair", 2, 1), False),
                              (("pair", False, 2), False), (("pair", 0, 2), True), (("pair", -LONG, 2), False)):
            self.assertIs(is_led_or_unlike(row, others, value), wanted)

    def test_nothing_is_changed(self):
        rows = (LETTERS, TEN[:9])
        for row in rows:
            self.assertEqual(led_or_unlike(row, row), led_or_unlike(row, row))
        self.assertEqual(LETTERS[0], "+XI")


if __name__ == "__main__":
    unittest.main()
