"""Promises [11.1] to [11.6], the words [0.12] and the main statement [0.16]: operators for a book, or none."""

import unittest
from itertools import combinations, product
from random import Random
from time import perf_counter

from askedapart.errors import InvalidBook, InvalidLot, InvalidOperation, InvalidOperator, InvalidTable
from askedapart.say.books import Book, beside
from askedapart.say.signs import signs_or_lot
from askedapart.sign.answers import (are_right_operators, crossings, is_operators_or_bar, is_right_table, operators_by,
                                     operators_or_bar, table_count, table_of)
from book_samples import (BOTH, FREE, WIDER, barred_book, bent, cancelling_lots, drawn_longer, general_books, hidden, lot_bit,
                          mixed_up, own_crossings, own_is_paper, planar_book, split)
from graph_samples import check_errors
from operator_samples import LETTERS, TEN, all_operators, negated, own_are_right, own_table, random_operators
from samples import (CHAIN, LARGE, LONG, LONGEST, NOTHING, PENTAGRAM, SQUARE, TRIANGLE, all_picks, caught, deep, random_paired,
                     small_books)
from test_tables import all_tables, own_rank

CHANCE = Random(11)
SMALL = small_books(250, seed=11)
BOOKS = general_books(40, 12)
PAIRED = [random_paired(CHANCE, 10, 16) for _ in range(30)] + [barred_book(CHANCE, drawn=3, more=k % 3) for k in range(8)]
PAIRED += [planar_book(CHANCE, 10, 16)[0] for _ in range(8)] + [drawn_longer(CHANCE, PENTAGRAM, 5), drawn_longer(CHANCE, SQUARE, 8)]
NO_BOOK = tuple(value for value in NOTHING if not isinstance(value, Book))


def own_is_right_table(book, table):
    """By the words of [11.2], with all lots that cancel, not those of a basis alone."""
    for members, _ in book.sayings:
        if any(e in members and f in members for e, f in table):
            return False
        if any(sum((min(e, f), max(e, f)) in table for e in members) % 2 for f in range(book.many)):
            return False
    return all(len(set(own_crossings(book, lot)) & set(table)) % 2 == lot_bit(book, lot) for lot in cancelling_lots(book))


class Examples(unittest.TestCase):
    def test_examples(self):
        self.assertEqual([are_right_operators(SQUARE, LETTERS), table_of(SQUARE, LETTERS)[:4], table_count(SQUARE),
                          crossings(TRIANGLE, (0, 1, 2)), operators_or_bar(TRIANGLE)[0]],
                         [True, ((0, 4), (0, 5), (0, 7), (0, 8)), 1, ((0, 1), (1, 2)), "barred"])
        self.assertIs(is_operators_or_bar(TRIANGLE, ("barred", (0, 1, 2), ((0, 1), (1, 2)), ())), True)
        self.assertEqual([len(operators_by(SQUARE, table_of(SQUARE, LETTERS))[0]), is_right_table(SQUARE, ())], [3, False])
        self.assertEqual([table_count(WIDER), are_right_operators(WIDER, tuple([*LETTERS, "+II", "+II"]))], [2, True])


class RightOperators(unittest.TestCase):
    def test_the_judge(self):
        judged = []
        for book, operators in [hidden(CHANCE, CHANCE.randint(1, 12), CHANCE.randint(1, 6), CHANCE.randint(1, 12)) for _ in range(60)]:
            self.assertIs(are_right_operators(book, operators), True)
            for _ in range(12):
                at = CHANCE.randrange(book.many)
                worse = CHANCE.choice((negated(operators[at]), *random_operators(CHANCE, 3, len(operators[0]) - 1, 4)))
                value = (*operators[:at], worse, *operators[at + 1:])
                wanted = own_are_right(book, value)
                judged.append(wanted)
                self.assertIs(are_right_operators(book, value), wanted)
            for wrong in (list(operators), operators[1:], operators + operators[:1], (operators,), operators[0],
                          (operators[0] + "I", *operators[1:]), (*operators[:-1], None), (*operators[:-1], operators[-1][1:])):
                if wrong != (operators[0] + "I",):
                    self.assertIs(are_right_operators(book, wrong), False)
            longer = tuple(operator + "I" for operator in operators)
            self.assertIs(are_right_operators(book, longer), len(longer[0]) <= 13)
        self.assertEqual(set(judged), {True, False})
        self.assertIs(are_right_operators(PENTAGRAM, TEN), True)
        self.assertIs(are_right_operators(bent(PENTAGRAM, 0), TEN), False)

    def test_all_operators_of_one_letter(self):
        for book in [book for book in SMALL if book.many <= 3][:40]:
            for value in product(all_operators(1), repeat=book.many):
                self.assertIs(are_right_operators(book, value), own_are_right(book, value))

    def test_all_must_commute(self):
        # The product of these is -1, but they do not commute.
        book = Book(4, (((0, 1, 2, 3), 1),))
        self.assertIs(are_right_operators(book, ("+X", "+Z", "+X", "+Z")), False)
        self.assertIs(are_right_operators(book, ("+X", "-X", "+Z", "+Z")), False)
        self.assertIs(are_right_operators(book, ("+X", "-X", "+X", "+X")), True)

    def test_letters_I_alone_are_signs(self):
        for book in [FREE, CHAIN, *SMALL[:60]]:
            word, found = signs_or_lot(book)
            if word == "signs":
                self.assertIs(are_right_operators(book, tuple("+-"[bit] + "II" for bit in found)), True)

    def test_what_judges_takes_every_value(self):
        for value in (*NOTHING, *NOTHING[-1:], ("+X",) * 8, ("+X", "+XX") + ("+X",) * 7, ("+X",) * 8 + (1,), "+X" * 9, ["+XI"] * 9):
            self.assertIs(are_right_operators(SQUARE, value), False)
            self.assertIs(is_right_table(SQUARE, value), False)
            self.assertIs(is_operators_or_bar(SQUARE, value), False)

    def test_tables_of_operators(self):
        for book, operators in [hidden(CHANCE, 6, 5, 9) for _ in range(20)]:
            for row in (operators, random_operators(CHANCE, book.many, CHANCE.randint(1, 12))):
                self.assertEqual(table_of(book, row), own_table(row))


class Crossings(unittest.TestCase):
    def test_crossings_of_all_lots_that_cancel(self):
        many = 0
        for book in [*SMALL, *BOOKS, *PAIRED]:
            if len(book.sayings) <= 10:
                for lot in cancelling_lots(book)[:20]:
                    many += 1
                    self.assertEqual(crossings(book, lot), own_crossings(book, lot))
        self.assertGreater(many, 300)
        self.assertEqual(crossings(LARGE, tuple(range(16))), own_crossings(LARGE, tuple(range(16))))

    def test_lots_that_do_not_cancel(self):
        for book in [*SMALL[:80], SQUARE, FREE]:
            right = cancelling_lots(book) if len(book.sayings) < 12 else []
            for lot in all_picks(min(len(book.sayings), 6)):
                if lot not in right:
                    caught(InvalidOperation, crossings, book, lot)


class RightTables(unittest.TestCase):
    def test_all_tables_of_small_books(self):
        counts = set()
        for book in [book for book in SMALL if book.many <= 4][:160] + [
                beside(TRIANGLE, Book(1, (((0,), 0),))), Book(4, (((0, 1), 0), ((2, 3), 1)))]:
            right = 0
            for table in all_tables(book.many):
                wanted = own_is_right_table(book, table)
                right += wanted
                self.assertIs(is_right_table(book, table), wanted, (book.sayings, table))
                if wanted:
                    self.check_operators(book, table)
                else:
                    caught(InvalidOperation, operators_by, book, table)
            self.assertEqual(table_count(book), right)
            self.assertEqual(operators_or_bar(book)[0] == "operators", right > 0)
            self.assertIn(right, (0, 2 ** len(own_changes(book))))
            counts.add(right)
        self.assertTrue({0, 1, 2} <= counts, counts)

    def check_operators(self, book, table):
        """Operators by a right table are right, have just this table, and half as many letters as its rank."""
        found = operators_by(book, table)
        self.assertTrue(own_are_right(book, found))
        self.assertEqual(own_table(found), table)
        self.assertEqual(len(found[0]) - 1, max(own_rank(book.many, table) // 2, 1))
        self.assertIs(are_right_operators(book, found), True)

    def test_tables_of_hidden_operators(self):
        ranks = set()
        for _ in range(60):
            book, operators = hidden(CHANCE, CHANCE.randint(1, 12), CHANCE.randint(1, 8), CHANCE.randint(1, 12))
            table = own_table(operators)
            self.assertIs(is_right_table(book, table), True)
            self.check_operators(book, table)
            ranks.add(own_rank(book.many, table))
            self.assertGreater(table_count(book), 0)
            for _ in range(6):
                e, f = sorted(CHANCE.sample(range(book.many), 2))
                value = tuple(sorted({*table} ^ {(e, f)}))
                if len(book.sayings) <= 9:
                    self.assertIs(is_right_table(book, value), own_is_right_table(book, value))
            for wrong in (table[::-1], list(table), table + table, (table,), ("table", table)):
                self.assertIs(is_right_table(book, wrong), wrong == table)
        self.assertGreater(len(ranks), 3)

    def test_tables_of_paired_books(self):
        for book in [*PAIRED, *BOOKS]:
            word, *found = operators_or_bar(book)
            if word == "operators":
                table = own_table(found[0])
                self.assertIs(is_right_table(book, table), True)
                self.check_operators(book, table)
                self.assertEqual(table_count(book) & (table_count(book) - 1), 0)
            else:
                self.assertEqual(table_count(book), 0)
                self.assertIs(is_right_table(book, ()), False)

    def test_counts_at_the_bounds(self):
        # Unknowns that stand in no saying together, and in sayings of their own, commute all: one table.
        self.assertEqual(table_count(Book(16, tuple(((k,), 1) for k in range(16)))), 1)
        # Two sayings of two unknowns each let 0 and 2 not commute, 1 and 3 then also, and so on.
        self.assertEqual(table_count(Book(4, (((0, 1), 0), ((2, 3), 1)))), 2)
        many = table_count(FREE)
        self.assertEqual(many & (many - 1), 0)
        self.assertGreater(many, 1)


class EitherOr(unittest.TestCase):
    def check(self, book):
        """The word of what is told, which is right by its meaning."""
        found = operators_or_bar(book)
        if found[0] == "operators":
            self.assertEqual(len(found), 2)
            self.assertTrue(own_are_right(book, found[1]))
            self.assertLessEqual(len(found[1][0]), 13)
        else:
            self.assertEqual((found[0], len(found)), ("barred", 4))
            self.assertTrue(own_is_paper(book, *found[1:]), (book.sayings, found))
        self.assertIs(is_operators_or_bar(book, found), True)
        return found[0]

    def test_general_books(self):
        words = {"operators": 0, "barred": 0}
        for book in [*SMALL, *BOOKS]:
            words[self.check(book)] += 1
        self.assertGreater(min(words.values()), 30)

    def test_hidden_operators_and_one_bit_bent(self):
        bars = 0
        for _ in range(60):
            book, operators = hidden(CHANCE, CHANCE.randint(1, 5), CHANCE.randint(2, 6), 10)
            self.assertEqual(self.check(book), "operators")
            for at in range(len(book.sayings)):
                bars += self.check(bent(book, at)) == "barred"
        self.assertGreater(bars, 10)

    def test_the_square_and_the_pentagram_drawn_longer(self):
        for book in (SQUARE, PENTAGRAM, WIDER, BOTH):
            for times in (0, 1, 4, 10):
                longer = drawn_longer(CHANCE, book, min(times, 16 - len(book.sayings)))
                self.assertEqual(self.check(mixed_up(CHANCE, longer)), "barred" if book is BOTH else "operators")
        self.assertEqual([self.check(bent(book, 0)) for book in (SQUARE, PENTAGRAM, TRIANGLE)], ["operators"] * 3)

    def test_several_pieces(self):
        for one, other, word in ((SQUARE, SQUARE, "operators"), (SQUARE, TRIANGLE, "barred"), (TRIANGLE, TRIANGLE, "barred"),
                                 (SQUARE, bent(TRIANGLE, 0), "operators"), (TRIANGLE, bent(SQUARE, 1), "barred"),
                                 (PENTAGRAM, SQUARE, "operators"), (FREE, None, "operators")):
            self.assertEqual(self.check(one if other is None else beside(one, other)), word)

    def test_paired_books(self):
        words = {self.check(book) for book in PAIRED}
        self.assertEqual(words, {"operators", "barred"})
        for k in range(8):
            self.assertEqual(self.check(barred_book(CHANCE, drawn=2 + k % 3, more=k % 3, further=k)), "operators")
            self.assertEqual(self.check(planar_book(CHANCE, 12, 20)[0]), "barred")

    def test_several_lots_that_cancel(self):
        # Sayings that come twice, with other bits, and sums of several lots.
        for times in range(2, 7):
            sayings = ((0, 1), (1, 2), (0, 2), (0, 1, 2), (0, 1), (1, 2))[:times]
            for bits in product((0, 1), repeat=times):
                if {e for members in sayings for e in members} == {0, 1, 2}:
                    self.check(Book(3, tuple(zip(sayings, bits))))

    def test_at_the_bounds(self):
        dense = Book(24, tuple((tuple(sorted(CHANCE.sample(range(24), 8))), CHANCE.randrange(2)) for _ in range(13))
                     + tuple((tuple(range(8 * k, 8 * k + 8)), 1) for k in range(3)))
        same = Book(8, ((tuple(range(8)), 0),) * 15 + ((tuple(range(8)), 1),))
        for book in (dense, LARGE, FREE, same, beside(PENTAGRAM, Book(14, tuple(((k,), 0) for k in range(10)) + (((10, 11, 12, 13), 1),)))):
            begun = perf_counter()
            found = operators_or_bar(book)
            self.assertIs(is_operators_or_bar(book, found), True)
            table_count(book)
            self.assertLess(perf_counter() - begun, 2)
            if found[0] == "operators":
                self.assertTrue(own_are_right(book, found[1]))
        self.assertEqual(self.check(FREE), "operators")
        self.assertEqual(self.check(same), "barred")

    def test_the_judge_of_papers(self):
        judged = []
        for book in [TRIANGLE, BOTH, *[book for book in [*SMALL, *BOOKS] if operators_or_bar(book)[0] == "barred"][:60]]:
            _, lot, pairs, hits = operators_or_bar(book)
            members = [row for row, _ in book.sayings]
            for _ in range(8):
                held, more = set(pairs), set(hits)
                for _ in range(CHANCE.randrange(3)):
                    # Hits of one saying at all members of another one, and back, sum to nothing.
                    s, t = CHANCE.randrange(len(members)), CHANCE.randrange(len(members))
                    more ^= {(s, f) for f in members[t]} ^ ({(t, e) for e in members[s]} if s != t else set())
                if CHANCE.randrange(2):
                    more ^= {(CHANCE.randrange(len(members)), CHANCE.randrange(book.many))}
                if CHANCE.randrange(4) == 0 and book.many > 1:
                    held ^= {tuple(sorted(CHANCE.sample(range(book.many), 2)))}
                value = (lot, tuple(sorted(held)), tuple(sorted(more)))
                wanted = own_is_paper(book, *value)
                judged.append(wanted)
                self.assertIs(is_operators_or_bar(book, ("barred", *value)), wanted, (book.sayings, value))
            for other in all_picks(min(len(members), 6)):
                wanted = own_is_paper(book, other, pairs, hits)
                self.assertIs(is_operators_or_bar(book, ("barred", other, pairs, hits)), wanted)
        self.assertEqual(set(judged), {True, False})
        self.assertGreater(sum(judged), 100)

    def test_bent_forms_of_papers(self):
        _, lot, pairs, hits = operators_or_bar(BOTH)
        pairs, hits = ((9, 10), (10, 11)), ()
        self.assertIs(is_operators_or_bar(BOTH, ("barred", lot, pairs, hits)), True)
        for value in (("barred", lot, pairs), ("barred", lot, pairs, hits, ()), ["barred", lot, pairs, hits], (lot, pairs, hits),
                      ("barred", list(lot), pairs, hits), ("barred", lot, list(pairs), hits), ("barred", lot, pairs, []),
                      ("barred", lot, pairs[::-1], hits), ("barred", lot, pairs + pairs, hits), ("barred", lot, (), hits),
                      ("operators", lot, pairs, hits), ("barred", lot, pairs, ((0, 12),)), ("barred", lot, pairs, ((9, 0),)),
                      ("barred", lot, pairs, ((True, 0), (True, 0))), ("barred", lot, pairs, None), ("barred", None, pairs, hits),
                      ("barred", lot, ((9, 10), (10, 11), (11, 12)), ()), ("barred", (), (), ()), ("barred", lot, 0, 0),
                      ("barred", lot, ((10, 9), (10, 11)), ()), ("barred", lot, pairs, ((0, LONG),)), ("barred", tuple(range(9)), pairs, ())):
            self.assertIs(is_operators_or_bar(BOTH, value), False)
        for value in (*NOTHING, ("operators", None), ("operators", ["+X"] * 12), ("operators", ("+X",) * 12), ("operators", ()),
                      ("barred", LONGEST, None, None), ("barred", deep(0, 7, tuple), (), ())):
            self.assertIs(is_operators_or_bar(BOTH, value), False)
            self.assertIs(is_operators_or_bar(SQUARE, ("operators", value)), False)

    def test_never_both(self):
        for book in (SQUARE, PENTAGRAM, WIDER, FREE):
            for lot in cancelling_lots(book) if len(book.sayings) < 12 else []:
                for _ in range(30):
                    hits = tuple(sorted({(CHANCE.randrange(len(book.sayings)), CHANCE.randrange(book.many)) for _ in range(6)}))
                    self.assertIs(is_operators_or_bar(book, ("barred", lot, (), hits)), False)


class NoneOfTheseIsTrue(unittest.TestCase):
    def test_right_tables_of_unlike_ranks(self):
        one = own_table((*LETTERS, "+II", "+II"))
        change, = own_changes(WIDER)
        other = tuple(sorted({*one} ^ change))
        for table in (one, other):
            self.assertTrue(own_is_right_table(WIDER, table))
            self.assertIs(is_right_table(WIDER, table), True)
            self.assertTrue(own_are_right(WIDER, operators_by(WIDER, table)))
        self.assertEqual({own_rank(11, one), own_rank(11, other)}, {4, 6})

    def test_the_same_members_with_other_bits(self):
        table = table_of(SQUARE, LETTERS)
        self.assertEqual([is_right_table(SQUARE, table), is_right_table(bent(SQUARE, 0), table)], [True, False])

    def test_right_signs_and_a_table_that_is_not_empty(self):
        book = Book(4, (((0, 1), 0), ((2, 3), 0)))
        self.assertEqual(signs_or_lot(book)[0], "signs")
        self.assertIs(is_right_table(book, ((0, 2), (0, 3), (1, 2), (1, 3))), True)


def own_changes(book):
    """A basis of what the sums of bits let a right table have beside another one."""
    barred = {pair for members, _ in book.sayings for pair in combinations(members, 2)}
    sums = [{(min(e, f), max(e, f)) for e in members if e != f} for members, _ in book.sayings for f in range(book.many)]
    sums += [set(own_crossings(book, lot)) for lot in cancelling_lots(book)]
    places = [pair for pair in combinations(range(book.many), 2) if pair not in barred]
    return own_kernel(places, [row & set(places) for row in sums])


def own_kernel(places, sums):
    """A basis of the lots of places that have an even number in common with each of the sums."""
    rows = [[int(place in row) for place in places] for row in sums]
    heads, kept = [], []
    for row in rows:
        for head, other in zip(heads, kept):
            if row[head]:
                row = [a ^ b for a, b in zip(row, other)]
        if any(row):
            at = row.index(1)
            kept = [[a ^ b for a, b in zip(other, row)] if other[at] else other for other in kept]
            heads.append(at)
            kept.append(row)
    found = []
    for free in range(len(places)):
        if free not in heads:
            found.append({places[free]} | {places[head] for head, row in zip(heads, kept) if row[free]})
    return found


class WrongArguments(unittest.TestCase):
    def test_wrong_arguments(self):
        book = {0: (InvalidBook, NO_BOOK)}
        lots = {**book, 1: (InvalidLot, (*[value for value in NOTHING if value not in ((), (0,), (0, 1), (2,), (0, 2))], (1, 0), (0, 0),
                                         (3,), [0, 1, 2], (0, True, 2), (0, 1, LONG), (0, 1, 2, 3)))}
        tables = {**book, 1: (InvalidTable, (*[value for value in NOTHING if value != ()], ((1, 0),), ((0, 9),), [(0, 4)],
                                             ((0, True),), ((0, LONG),), ((0, 4), (0, 4)), ((0, 5), (0, 4)), ((0,),)))}
        operators = {**book, 1: (InvalidOperator, (*NOTHING, LETTERS[:-1], LETTERS + LETTERS[:1], list(LETTERS), LETTERS[0], (LETTERS,),
                                                   (*LETTERS[:-1], "+X"), (*LETTERS[:-1], "XX"), (*LETTERS[:-1], None),
                                                   ("+" + "I" * 13,) * 9, ("+",) * 9))}
        for call, good, bad in (
                (are_right_operators, (SQUARE, None), book), (table_of, (SQUARE, LETTERS), operators),
                (crossings, (TRIANGLE, (0, 1, 2)), lots), (is_right_table, (SQUARE, None), book), (table_count, (SQUARE,), book),
                (operators_by, (SQUARE, table_of(SQUARE, LETTERS)), tables), (operators_or_bar, (SQUARE,), book),
                (is_operators_or_bar, (SQUARE, None), book)):
            check_errors(call, good, bad)

    def test_what_comes_then_is_behind_all_others(self):
        caught(InvalidOperation, crossings, TRIANGLE, ())
        caught(InvalidOperation, crossings, TRIANGLE, (0,))
        caught(InvalidLot, crossings, TRIANGLE, (0, 3))
        caught(InvalidOperation, operators_by, SQUARE, ())
        caught(InvalidOperation, operators_by, SQUARE, ((0, 1),))
        caught(InvalidTable, operators_by, SQUARE, ((0, 4), (0, 4)))

    def test_operators_need_not_be_right(self):
        self.assertEqual(table_of(SQUARE, ("+X", "+Z", "+I") + ("-I",) * 6), ((0, 1),))

    def test_nothing_is_changed_and_equal_calls_return_equal_results(self):
        for book in (SQUARE, TRIANGLE, BOTH, split(SQUARE, 0, 0, 1)):
            sayings = book.sayings
            self.assertEqual(operators_or_bar(book), operators_or_bar(book))
            self.assertEqual(table_count(book), table_count(book))
            self.assertEqual(book.sayings, sayings)


if __name__ == "__main__":
    unittest.main()
