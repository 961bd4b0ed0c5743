"""Promises [3.1] to [3.5], the words [0.12] and [0.15], the conventions [0.1] to [0.6]: signs."""

import unittest
from random import Random

from askedapart.base.bits import span_rank
from askedapart.errors import InvalidBits, InvalidBook, InvalidLot, InvalidOperation, Refused, TooMany
from askedapart.say import signs as module
from askedapart.say.books import Book, beside, cancelling, does_cancel, is_odd, pieces, with_bits
from askedapart.say.signs import (all_signs, are_right, false_lot, fewest, fewest_signs, is_fewest_signs,
                                  is_lot_or_signs, is_signs_for, is_signs_or_lot, lot_or_signs, sign_count, signs_for,
                                  signs_or_lot, told)
from samples import (CHAIN, LARGE, LONG, NOTHING, PENTAGRAM, SQUARE, TRIANGLE, all_bits, all_picks, all_tuples, caught,
                     random_paired, small_books)

SMALL = [TRIANGLE, CHAIN, *small_books(100, 21)]
BOOKS = [SQUARE, PENTAGRAM, *SMALL]
NO_BOOK = tuple(value for value in NOTHING if not isinstance(value, Book))
EIGHTS = Book(24, tuple((tuple(range(8 * k, 8 * k + 8)), k % 2) for k in range(3)))
# Not paired: 12 unknowns, and 13.
TWELVE = Book(12, (*(((k, (k + 1) % 12) if k < 11 else (0, 11), int(k == 3)) for k in range(12)), ((0,), 1), ((0,), 0)))
THIRTEEN = Book(13, ((tuple(range(8)), 0), (tuple(range(8)), 1), (tuple(range(8, 13)), 0)))


def is_own_true(wish, signs):
    """Whether the bits of the members sum to the bit."""
    return sum(signs[e] for e in wish[0]) % 2 == wish[1]


def own_false(book, signs):
    """The sayings that are false for the signs."""
    return tuple(s for s, saying in enumerate(book.sayings) if not is_own_true(saying, signs))


def own_right(book):
    """All right signs, all signs being gone through."""
    return tuple(signs for signs in all_bits(book.many) if own_false(book, signs) == ())


def own_lot_sum(book, lot):
    """The members and the bit of the sum of the lot."""
    members = tuple(e for e in range(book.many) if sum(e in book.sayings[s][0] for s in lot) % 2)
    return members, sum(book.sayings[s][1] for s in lot) % 2


def own_odd_lots(book):
    """All odd lots that cancel."""
    return [lot for lot in all_picks(len(book.sayings)) if own_lot_sum(book, lot) == ((), 1)]


def own_wishes(book):
    """All wishes."""
    return [(members, bit) for members in all_picks(book.many) for bit in (0, 1)]


def told_values(book, words=("signs", "lot")):
    """Values that might be judged: rows of bits of some lengths, lots and what is none."""
    rows = [row for length in range(book.many + 2) for row in all_bits(length)]
    many = len(book.sayings)
    tuples = all_tuples(many, 3) + [lot for lot in all_picks(many) if len(lot) > 3]
    return [(word, value) for word in words for value in rows + tuples]


def most_apart(lots):
    """The most of the lots no two of which have a common saying."""
    if not lots:
        return 0
    first, rest = lots[0], lots[1:]
    return max(most_apart(rest), 1 + most_apart([lot for lot in rest if not set(lot) & set(first)]))


class Examples(unittest.TestCase):
    def test_examples(self):
        self.assertEqual([signs_or_lot(SQUARE), sign_count(SQUARE), signs_or_lot(TRIANGLE), fewest(SQUARE)],
                         [("lot", (0, 1, 2, 3, 4, 5)), 0, ("lot", (0, 1, 2)), 1])
        self.assertEqual([all_signs(CHAIN), told(CHAIN), lot_or_signs(CHAIN, ((0,), 0)), lot_or_signs(CHAIN, ((0, 2), 0))],
                         [((0, 1, 1),), {0: 0, 1: 1, 2: 1}, ("lot", (0, 1, 2)), ("signs", (0, 1, 1))])
        self.assertEqual([false_lot(TRIANGLE, (0, 0, 0)), signs_for(TRIANGLE, (0, 1)), is_signs_for(TRIANGLE, (0,), (1, 0, 0)),
                          is_signs_or_lot(CHAIN, ("signs", (0, 1, 1)))], [(2,), None, False, True])

    def test_constants(self):
        self.assertEqual((module.MOST_SIGNS, module.MOST_TRIED), (1024, 12))


class RightSigns(unittest.TestCase):
    def test_right_or_not(self):
        for book in BOOKS:
            right = own_right(book)
            for length in range(min(book.many, 4) + 2):
                for signs in all_bits(length):
                    self.assertIs(are_right(book, signs), signs in right)
            for signs in all_bits(book.many):
                self.assertIs(are_right(book, signs), signs in right)

    def test_either_or(self):
        for book in BOOKS:
            right, lots = own_right(book), own_odd_lots(book)
            word, found = signs_or_lot(book)
            self.assertTrue(bool(right) != bool(lots))
            self.assertIn(found, right if word == "signs" else lots)
            self.assertEqual(word, "signs" if right else "lot")
            self.assertIs(is_signs_or_lot(book, (word, found)), True)

    def test_the_judge_takes_every_right_value_and_no_other(self):
        for book in SMALL[:50]:
            right, lots = own_right(book), own_odd_lots(book)
            for word, found in told_values(book):
                wanted = found in right if word == "signs" else found in lots
                self.assertIs(is_signs_or_lot(book, (word, found)), wanted, (book.sayings, word, found))

    def test_count_and_all(self):
        for book in BOOKS:
            right = own_right(book)
            self.assertEqual(sign_count(book), len(right))
            if len(right) <= 1024:
                self.assertEqual(all_signs(book), right)
            if right:
                rows = tuple(tuple(int(e in members) for e in range(book.many)) for members, _ in book.sayings)
                self.assertEqual(len(right), 2 ** (book.many - span_rank(rows)))

    def test_edges(self):
        self.assertEqual(sign_count(LARGE), 0)
        self.assertEqual(all_signs(LARGE), ())
        self.assertEqual(sign_count(with_bits(LARGE, (0,) * 16)), 2 ** 9)
        self.assertEqual(len(all_signs(with_bits(LARGE, (0,) * 16))), 2 ** 9)
        self.assertEqual(sign_count(EIGHTS), 2 ** 21)
        self.assertEqual(signs_or_lot(Book(1, (((0,), 1),))), ("signs", (1,)))
        self.assertEqual(signs_or_lot(Book(1, (((0,), 1), ((0,), 0)))), ("lot", (0, 1)))
        self.assertEqual(signs_or_lot(LARGE), ("lot", tuple(range(16))))

    def test_as_many_as_are_told_at_most(self):
        eleven = Book(11, ((tuple(range(8)), 0), ((8, 9, 10), 1), ((9,), 0)))
        ten = Book(11, ((tuple(range(8)), 0), ((7, 8, 9, 10), 1), ((8, 9, 10), 1), ((0,), 1)))
        self.assertEqual((sign_count(eleven), sign_count(ten)), (256, 128))
        exact = Book(12, ((tuple(range(8)), 1), ((8, 9, 10, 11), 0)))
        self.assertEqual((sign_count(exact), len(all_signs(exact))), (1024, 1024))
        self.assertEqual(all_signs(exact), own_right(exact))
        more = Book(13, ((tuple(range(8)), 1), ((8, 9, 10, 11, 12), 0)))
        self.assertEqual((sign_count(more), caught(TooMany, all_signs, more).limit), (2048, 1024))
        self.assertEqual(caught(TooMany, all_signs, EIGHTS).limit, 1024)

    def test_the_judges_take_anything_without_an_error(self):
        for value in (*NOTHING, (0, 1, True), (False, 1, 1), [0, 1, 1], "011", ("signs", (0, True, 1)),
                      ["signs", (0, 1, 1)], ("signs", (0, 1, 1), ()), ("Signs", (0, 1, 1)), ("signs", (0, 1, 1, 0)),
                      ("lot", ()), ("lot", (0, 1, 2))):
            self.assertIs(are_right(CHAIN, value), False, repr(value)[:80])
            self.assertIs(is_signs_or_lot(CHAIN, value), False, repr(value)[:80])
        for value in (*NOTHING, ("lot", ()), ("lot", (0, True, 2)), ("lot", (0, 1)), ("lot", [0, 1, 2]),
                      ("lot", (2, 1, 0)), ("lot", (0, 1, 2), 0), ["lot", (0, 1, 2)], ("signs", (0, 0, 0))):
            self.assertIs(is_signs_or_lot(TRIANGLE, value), False, repr(value)[:80])
        self.assertIs(is_signs_or_lot(with_bits(TRIANGLE, (0, 0, 0)), ("lot", (0, 1, 2))), False)


class WhatFollows(unittest.TestCase):
    def test_either_or(self):
        for book in SMALL:
            right = own_right(book)
            if not right:
                continue
            lots = {own_lot_sum(book, lot) for lot in all_picks(len(book.sayings))}
            for wish in own_wishes(book):
                word, found = lot_or_signs(book, wish)
                self.assertEqual(word == "lot", all(is_own_true(wish, signs) for signs in right))
                self.assertEqual(word == "lot", wish in lots)
                if word == "lot":
                    self.assertEqual(own_lot_sum(book, found), wish)
                else:
                    self.assertTrue(found in right and not is_own_true(wish, found))
                self.assertIs(is_lot_or_signs(book, wish, (word, found)), True)

    def test_the_judge_takes_every_right_value_and_no_other(self):
        for book in [book for book in SMALL if own_right(book) and book.many < 4 and len(book.sayings) < 4][:15]:
            right = own_right(book)
            lots = {lot: own_lot_sum(book, lot) for lot in all_picks(len(book.sayings))}
            for wish in own_wishes(book):
                for word, found in told_values(book):
                    wanted = lots.get(found) == wish if word == "lot" else found in right and not is_own_true(wish, found)
                    self.assertIs(is_lot_or_signs(book, wish, (word, found)), wanted, (book.sayings, wish, word, found))

    def test_wishes_without_members(self):
        self.assertIs(is_lot_or_signs(CHAIN, ((), 0), lot_or_signs(CHAIN, ((), 0))), True)
        self.assertEqual(lot_or_signs(CHAIN, ((), 1)), ("signs", (0, 1, 1)))
        self.assertIs(is_lot_or_signs(CHAIN, ((), 0), ("lot", ())), True)
        self.assertIs(is_lot_or_signs(CHAIN, ((), 1), ("lot", ())), False)

    def test_wishes_with_many_members(self):
        wish = (tuple(range(24)), 1)
        word, found = lot_or_signs(EIGHTS, wish)
        self.assertEqual((word, found), ("lot", (0, 1, 2)))
        word, found = lot_or_signs(EIGHTS, (tuple(range(24)), 0))
        self.assertTrue(word == "signs" and own_false(EIGHTS, found) == () and sum(found) % 2 == 1)
        self.assertIs(is_lot_or_signs(EIGHTS, (tuple(range(1, 24)), 0), lot_or_signs(EIGHTS, (tuple(range(1, 24)), 0))), True)

    def test_told(self):
        for book in BOOKS:
            right = own_right(book)
            if not right:
                self.assertEqual(caught(Refused, told, book).reason, ("lot",))
                continue
            found = told(book)
            wanted = {e: right[0][e] for e in range(book.many) if len({signs[e] for signs in right}) == 1}
            self.assertEqual(found, wanted)
            self.assertEqual(list(found), sorted(found))
            for e in range(book.many):
                halves = sum(signs[e] for signs in right)
                self.assertTrue(e in found or 2 * halves == len(right))
        self.assertEqual(told(EIGHTS), {})
        self.assertEqual(told(Book(2, (((0, 1), 1), ((1,), 1)))), {0: 0, 1: 1})

    def test_each_call_makes_its_own_dict(self):
        first = told(CHAIN)
        first[0] = 5
        self.assertEqual(told(CHAIN), {0: 0, 1: 1, 2: 1})

    def test_the_judge_takes_anything_without_an_error(self):
        for value in (*NOTHING, ("lot", (0, 1, True)), ("lot", [0, 1, 2]), ["lot", (0, 1, 2)], ("signs", (0, 1, True)),
                      ("lot", (0, 1, 2, 3)), ("lot", ()), ("lot", (0, 1, 2), 1)):
            self.assertIs(is_lot_or_signs(CHAIN, ((0,), 0), value), False, repr(value)[:80])

    def test_refused_where_no_signs_are_right(self):
        self.assertEqual(caught(Refused, lot_or_signs, TRIANGLE, ((), 0)).reason, ("lot",))
        self.assertEqual(caught(Refused, is_lot_or_signs, TRIANGLE, ((), 0), ("lot", ())).reason, ("lot",))
        self.assertEqual(caught(Refused, told, SQUARE).reason, ("lot",))


class FalseSayings(unittest.TestCase):
    def test_false_lots(self):
        for book in BOOKS:
            for signs in all_bits(book.many):
                self.assertEqual(false_lot(book, signs), own_false(book, signs))
        self.assertEqual(false_lot(LARGE, (0,) * 24), (0,))

    def test_odd_lots_have_an_odd_number_and_each_such_lot_is_one(self):
        for book in SMALL:
            lots = [lot for lot in all_picks(len(book.sayings)) if does_cancel(book, lot)]
            come = {own_false(book, signs) for signs in all_bits(book.many)}
            for lot in all_picks(len(book.sayings)):
                fits = all(len(set(lot) & set(other)) % 2 == int(is_odd(book, other)) for other in lots)
                self.assertEqual(fits, lot in come)
                found = signs_for(book, lot)
                self.assertEqual(found is not None, fits)
                if found is not None:
                    self.assertEqual(own_false(book, found), lot)
                self.assertIs(is_signs_for(book, lot, found), True)

    def test_the_judge_takes_every_right_value_and_no_other(self):
        for book in SMALL[:40]:
            rows = [row for length in range(book.many + 2) for row in all_bits(length)]
            for lot in all_picks(len(book.sayings)):
                some = any(own_false(book, signs) == lot for signs in all_bits(book.many))
                self.assertIs(is_signs_for(book, lot, None), not some)
                for value in rows:
                    wanted = len(value) == book.many and own_false(book, value) == lot
                    self.assertIs(is_signs_for(book, lot, value), wanted)

    def test_the_judge_takes_anything_without_an_error(self):
        for value in (*NOTHING, (0, 0, True), [0, 0, 0], ("signs", (0, 0, 0)), (False, 0, 0)):
            self.assertIs(is_signs_for(TRIANGLE, (2,), value), False, repr(value)[:80])
            if value is not None:
                self.assertIs(is_signs_for(TRIANGLE, (0, 1), value), False, repr(value)[:80])

    def test_large(self):
        found = signs_for(LARGE, (5, 9, 11))
        self.assertEqual(own_false(LARGE, found), (5, 9, 11))
        self.assertIsNone(signs_for(LARGE, ()))
        self.assertIsNone(signs_for(LARGE, (3, 4)))
        self.assertEqual(own_false(EIGHTS, signs_for(EIGHTS, (0, 2))), (0, 2))


class Fewest(unittest.TestCase):
    def test_fewest_of_all_signs(self):
        for book in BOOKS:
            least = min(len(own_false(book, signs)) for signs in all_bits(book.many))
            found = fewest_signs(book)
            self.assertEqual(fewest(book), least)
            self.assertEqual(len(own_false(book, found)), least)
            for signs in all_bits(book.many):
                self.assertIs(is_fewest_signs(book, signs), len(own_false(book, signs)) == least)
            self.assertGreaterEqual(least, most_apart(own_odd_lots(book)[:12]))

    def test_other_lengths_are_no_signs(self):
        for book in SMALL:
            for length in (*range(book.many), book.many + 1):
                for value in all_bits(length):
                    self.assertIs(is_fewest_signs(book, value), False)

    def test_as_many_as_odd_pieces_in_a_paired_book(self):
        chance = Random(4)
        for _ in range(60):
            book = random_paired(chance, 16, 24)
            odd = [lot for lot in pieces(book) if is_odd(book, lot)]
            self.assertEqual(fewest(book), len(odd))
            found = fewest_signs(book)
            self.assertEqual(len(own_false(book, found)), len(odd))
            self.assertIs(is_fewest_signs(book, found), True)

    def test_any_saying_of_an_odd_piece_can_be_the_false_one(self):
        chance = Random(6)
        for _ in range(30):
            book = random_paired(chance, 8, 12)
            for lot in pieces(book):
                for s in lot if is_odd(book, lot) else ():
                    others = tuple(other[-1] for other in pieces(book) if is_odd(book, other) and other != lot)
                    wanted = tuple(sorted((s, *others)))
                    self.assertEqual(own_false(book, signs_for(book, wanted)), wanted)
                    self.assertIs(is_fewest_signs(book, signs_for(book, wanted)), True)

    def test_more_than_twelve_unknowns(self):
        self.assertEqual((fewest(LARGE), len(own_false(LARGE, fewest_signs(LARGE)))), (1, 1))
        self.assertEqual(fewest(beside(TRIANGLE, SQUARE)), 2)
        self.assertEqual(fewest(with_bits(LARGE, (0,) * 16)), 0)
        for book in (THIRTEEN, EIGHTS):
            for call in (fewest, fewest_signs):
                self.assertEqual(caught(TooMany, call, book).limit, 12)
            for value in ((0,) * book.many, None):
                self.assertEqual(caught(TooMany, is_fewest_signs, book, value).limit, 12)

    def test_twelve_unknowns_that_are_not_paired(self):
        # The ring's twelve sayings sum to 1, as do the last two; they have no common saying.
        self.assertEqual(fewest(TWELVE), 2)
        self.assertEqual(len(own_false(TWELVE, fewest_signs(TWELVE))), 2)
        self.assertIs(is_fewest_signs(TWELVE, fewest_signs(TWELVE)), True)
        self.assertIs(is_fewest_signs(TWELVE, (1,) * 12), len(own_false(TWELVE, (1,) * 12)) == 2)

    def test_the_judge_takes_anything_without_an_error(self):
        for value in (*NOTHING, (0, 0, True), [0, 0, 0], ("signs", (0, 0, 0)), (False, 0, 0), "000"):
            self.assertIs(is_fewest_signs(TRIANGLE, value), False, repr(value)[:80])


class NoneOfTheseIsTrue(unittest.TestCase):
    def test_fewer_sayings_may_be_false_than_odd_lots_are_in_the_basis(self):
        book = Book(1, (((0,), 0), ((0,), 0), ((0,), 1)))
        self.assertEqual(([is_odd(book, lot) for lot in cancelling(book)], fewest(book)), ([True, True], 1))

    def test_a_wish_may_be_true_for_some_right_signs_alone(self):
        book = Book(2, (((0, 1), 0),))
        self.assertEqual(all_signs(book), ((0, 0), (1, 1)))
        self.assertEqual(lot_or_signs(book, ((0,), 0)), ("signs", (1, 1)))
        self.assertEqual(lot_or_signs(book, ((0,), 1)), ("signs", (0, 0)))

    def test_what_follows_may_need_three_sayings(self):
        sums = {own_lot_sum(CHAIN, lot) for lot in all_picks(3) if len(lot) < 3}
        self.assertNotIn(((0,), 0), sums)
        self.assertEqual(lot_or_signs(CHAIN, ((0,), 0)), ("lot", (0, 1, 2)))


class WrongArguments(unittest.TestCase):
    def test_no_book(self):
        for value in NO_BOOK:
            for call in (signs_or_lot, sign_count, all_signs, told, fewest, fewest_signs):
                caught(InvalidBook, call, value)
            for call, more in ((are_right, (0,)), (is_signs_or_lot, ("lot", (0,))), (lot_or_signs, ((0,), 0)),
                               (false_lot, (0,)), (signs_for, (0,)), (is_fewest_signs, (0,))):
                caught(InvalidBook, call, value, more)
            caught(InvalidBook, is_lot_or_signs, value, ((0,), 0), ("lot", (0,)))
            caught(InvalidBook, is_signs_for, value, (0,), None)
            for call in (are_right, is_signs_or_lot, is_fewest_signs):
                caught(InvalidBook, call, value, None)
            caught(InvalidBook, is_lot_or_signs, value, ((0,), 0), None)
            caught(InvalidBook, is_signs_for, value, (0,), (0,))

    def test_no_wish(self):
        for value in (*NOTHING, (), ((0,),), ((0,), 2), ((0,), True), ((0,), -1), ((0,), None), ((3,), 0), ((0, 0), 0),
                      ((1, 0), 0), ((True,), 0), ((-1,), 0), ([0], 0), [(0,), 0], ((0,), 0, 0), ((0, 1, 2, 3), 0),
                      (0, 0), ("", 0), ((0, LONG), 0), ((0,), LONG), ({}, 0), (None, 0)):
            caught(InvalidOperation, lot_or_signs, CHAIN, value)
            caught(InvalidOperation, is_lot_or_signs, CHAIN, value, ("lot", (0, 1, 2)))

    def test_no_signs(self):
        for value in (*NOTHING, (), (0, 0), (0, 0, 0, 0), (0, 0, 2), (0, 0, True), [0, 0, 0], "000", ((0, 0, 0),)):
            caught(InvalidBits, false_lot, TRIANGLE, value)

    def test_no_lot(self):
        for value in (*NOTHING, (3,), (0, 0), (1, 0), [0, 1], (0, 1, 2, 3), (0, True)):
            caught(InvalidLot, signs_for, TRIANGLE, value)
            caught(InvalidLot, is_signs_for, TRIANGLE, value, None)
            caught(InvalidLot, is_signs_for, TRIANGLE, value, (0, 0, 0))
            caught(InvalidLot, is_signs_for, TRIANGLE, value, "no signs")

    def test_which_error_comes_first(self):
        for call in (lot_or_signs, false_lot, signs_for, is_fewest_signs, are_right):
            caught(InvalidBook, call, None, None)
        caught(InvalidBook, is_lot_or_signs, None, None, None)
        caught(InvalidBook, is_signs_for, None, None, None)
        # The wish is looked at ahead of whether signs are right.
        caught(InvalidOperation, lot_or_signs, TRIANGLE, ((3,), 0))
        caught(InvalidOperation, is_lot_or_signs, TRIANGLE, ((3,), 0), None)

    def test_equal_calls_return_equal_results(self):
        for book in (TRIANGLE, CHAIN, LARGE):
            before = (book.many, book.sayings)
            for call in (sign_count, all_signs, fewest):
                self.assertEqual(call(book), call(book))
            self.assertEqual((book.many, book.sayings), before)


if __name__ == "__main__":
    unittest.main()
