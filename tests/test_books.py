"""Promises [2.1] to [2.5], the words [0.7] to [0.9], the conventions [0.1] to [0.6]: books."""

import unittest
from itertools import combinations
from random import Random

from askedapart.base.bits import span_rank
from askedapart.errors import InvalidBits, InvalidBook, InvalidLot, InvalidNumber, InvalidOperation, TooMany
from askedapart.say import books as module
from askedapart.say.books import (Book, beside, cancelling, does_cancel, is_lot, is_odd, is_paired, piece_book, pieces,
                                  sayings_with, sum_of, turned, with_bits)
from samples import (CHAIN, LARGE, LONG, LONGEST, NOTHING, PENTAGRAM, SQUARE, TRIANGLE, all_bits, all_picks, all_tuples,
                     caught, random_paired, small_books)

BOOKS = [SQUARE, PENTAGRAM, TRIANGLE, CHAIN, *small_books(120)]
NO_BOOK = tuple(value for value in NOTHING if not isinstance(value, Book))
NO_INDEX = (None, True, False, -1, LONG, -LONG, LONGEST, "", "0", (), (0,), [], [0], {}, {0: 0}, SQUARE)


def own_sum_of(book, lot):
    """By the words of [2.1], unknown by unknown."""
    members = tuple(e for e in range(book.many) if sum(e in book.sayings[s][0] for s in lot) % 2)
    return members, sum(book.sayings[s][1] for s in lot) % 2


def own_cancelling(book):
    """All lots that cancel, as sets."""
    return {lot for lot in all_picks(len(book.sayings)) if lot and own_sum_of(book, lot)[0] == ()}


def all_made_of(lots):
    """What is in an odd number of some of the lots, for each choice of at least one."""
    found = set()
    for size in range(1, len(lots) + 1):
        for chosen in combinations(lots, size):
            known = sorted({s for lot in chosen for s in lot})
            found.add(tuple(s for s in known if sum(s in lot for lot in chosen) % 2))
    return found


def own_pieces(book):
    """Each saying's piece, grown till nothing comes to it."""
    found = set()
    for s in range(len(book.sayings)):
        piece = {s}
        for _ in book.sayings:
            met = {e for at in piece for e in book.sayings[at][0]}
            piece |= {at for at, (members, _) in enumerate(book.sayings) if met & set(members)}
        found.add(tuple(sorted(piece)))
    return tuple(sorted(found))


def odd_sums(book):
    """The lots that cancel, each with the sum of its bits."""
    return {lot: own_sum_of(book, lot)[1] for lot in own_cancelling(book)}


class Examples(unittest.TestCase):
    def test_examples(self):
        self.assertEqual([sum_of(SQUARE, (0, 3)), does_cancel(SQUARE, (0, 1, 2, 3, 4, 5)),
                          is_odd(SQUARE, (0, 1, 2, 3, 4, 5)), cancelling(SQUARE)],
                         [((1, 2, 3, 6), 0), True, True, ((0, 1, 2, 3, 4, 5),)])
        four = Book(2, (((0, 1), 0), ((0, 1), 1), ((0,), 0), ((1,), 0)))
        self.assertEqual([cancelling(four), str(TRIANGLE), is_paired(PENTAGRAM)],
                         [((0, 2, 3), (1, 2, 3)), "book of 3 unknowns, 3 sayings", True])
        both = beside(TRIANGLE, TRIANGLE)
        self.assertEqual([pieces(both), piece_book(both, 1)[1], sayings_with(SQUARE, 4)],
                         [((0, 1, 2), (3, 4, 5)), (3, 4, 5), (1, 4)])
        self.assertEqual([turned(TRIANGLE, (0,)).sayings, with_bits(TRIANGLE, (0, 0, 0)) == TRIANGLE,
                          is_lot(SQUARE, (2, 1))], [(((0, 1), 1), ((0, 2), 1), ((1, 2), 1)), False, False])
        caught(InvalidBook, Book, 3, (((0, 1), 0),))

    def test_constants(self):
        self.assertEqual((module.MOST_UNKNOWNS, module.MOST_SAYINGS, module.MOST_MEMBERS), (24, 16, 8))


class Books(unittest.TestCase):
    def test_what_a_book_keeps(self):
        sayings = (((0, 1), 0), ((1,), 1), ((1,), 1))
        book = Book(2, sayings)
        self.assertEqual((book.many, book.sayings), (2, sayings))
        self.assertIs(type(book.sayings), tuple)
        self.assertEqual(str(book), "book of 2 unknowns, 3 sayings")
        self.assertEqual(str(SQUARE), "book of 9 unknowns, 6 sayings")

    def test_edges(self):
        self.assertEqual(Book(1, (((0,), 1),)).sayings, (((0,), 1),))
        self.assertEqual(len(Book(1, (((0,), 1),) * 16).sayings), 16)
        eights = tuple((tuple(range(8 * k, 8 * k + 8)), 0) for k in range(3))
        self.assertEqual(str(Book(24, eights)), "book of 24 unknowns, 3 sayings")
        self.assertEqual((LARGE.many, len(LARGE.sayings)), (24, 16))

    def test_equal(self):
        again = Book(3, (((0, 1), 0), ((0, 2), 0), ((1, 2), 1)))
        self.assertTrue(again == TRIANGLE and not again != TRIANGLE and again is not TRIANGLE)
        for other in (CHAIN, SQUARE, with_bits(TRIANGLE, (0, 0, 0)), Book(3, TRIANGLE.sayings[::-1]),
                      Book(3, (*TRIANGLE.sayings, ((0,), 0)))):
            self.assertTrue(other != TRIANGLE and not other == TRIANGLE)
        for value in (*NO_BOOK, (3, TRIANGLE.sayings), TRIANGLE.sayings, str(TRIANGLE), 1.5):
            self.assertIs(TRIANGLE == value, False)
            self.assertIs(TRIANGLE != value, True)
            self.assertIs(value == TRIANGLE, False)
        self.assertIn(TRIANGLE, (None, "x", again))

    def test_books_do_not_change_and_cannot_be_iterated_over(self):
        for name, value in (("many", 4), ("sayings", ())):
            with self.assertRaises(AttributeError):
                setattr(TRIANGLE, name, value)
        with self.assertRaises(TypeError):
            iter(TRIANGLE)
        with self.assertRaises(TypeError):
            list(SQUARE)
        for method in ("__init__", "__eq__", "__str__", "many", "sayings"):
            self.assertIn(method, vars(Book))

    def test_wrong_number(self):
        for many in (0, -1, 25, True, False, None, "1", "", (), (1,), [1], {}, LONG, LONGEST, -LONG, SQUARE):
            caught(InvalidBook, Book, many, (((0,), 0),))
        caught(InvalidBook, Book, 25, tuple(((k,), 0) for k in range(16)))
        caught(InvalidBook, Book, True, (((0,), 1),))
        eights = tuple((tuple(range(8 * k, 8 * k + 8)), 0) for k in range(3))
        self.assertEqual(Book(24, (*eights, ((23,), 0))).many, 24)
        caught(InvalidBook, Book, 25, (*eights, ((24,), 0)))
        caught(InvalidBook, Book, 0, ())

    def test_wrong_sayings(self):
        good = ((0, 1), 0)
        for value in (*NOTHING, ()):
            caught(InvalidBook, Book, 2, value)
            caught(InvalidBook, Book, 2, (good, value))
            caught(InvalidBook, Book, 2, (good, (value, 0)))
            if type(value) is not int or value not in (0, 1):
                caught(InvalidBook, Book, 2, (good, ((value,), 0)))
        for saying in (((), 0), ((0, 0), 0), ((1, 0), 0), ((0, 2), 0), ((-1, 0), 0), ((0, True), 0), ((False,), 0),
                       ([0], 0), ((0,), 2), ((0,), -1), ((0,), True), ((0,), None), ((0,), "0"), ((0,), (0,)),
                       ((0,),), ((0,), 0, 0), [(0,), 0], ((0, LONG), 0), ((0,), LONG), (0, 0), ("0", 0), {0: 0}):
            caught(InvalidBook, Book, 2, (good, saying))
            caught(InvalidBook, Book, 2, (saying, good))
        caught(InvalidBook, Book, 2, [good])
        caught(InvalidBook, Book, 1, (((0,), 0),) * 17)
        caught(InvalidBook, Book, 9, ((tuple(range(9)), 0),))

    def test_each_unknown_stands_in_a_saying(self):
        for many, sayings in ((2, (((0,), 0),)), (2, (((1,), 0),)), (3, (((0, 2), 0), ((0,), 0))), (24, LARGE.sayings[1:2])):
            caught(InvalidBook, Book, many, sayings)


class Lots(unittest.TestCase):
    def test_the_judge_takes_every_lot_and_no_other_value(self):
        for book in (TRIANGLE, *BOOKS[4:30]):
            lots = all_picks(len(book.sayings))
            for value in all_tuples(len(book.sayings), 4 if len(book.sayings) < 4 else 3):
                self.assertIs(is_lot(book, value), value in lots)
            for lot in lots:
                self.assertIs(is_lot(book, lot), True)
            for value in (tuple(range(-1, 2)), tuple(range(len(book.sayings) + 1)), list(range(len(book.sayings)))):
                self.assertIs(is_lot(book, value), False)
        for value in NOTHING:
            self.assertIs(is_lot(SQUARE, value), False, repr(value)[:80])
        self.assertIs(is_lot(LARGE, tuple(range(16))), True)

    def test_sums(self):
        for book in BOOKS:
            for lot in all_picks(len(book.sayings)):
                members, bit = own_sum_of(book, lot)
                self.assertEqual(sum_of(book, lot), (members, bit))
                self.assertIs(does_cancel(book, lot), lot != () and members == ())
                self.assertIs(is_odd(book, lot), bit == 1)
        self.assertEqual(sum_of(SQUARE, ()), ((), 0))
        self.assertEqual((does_cancel(SQUARE, ()), is_odd(SQUARE, ())), (False, False))

    def test_sums_of_true_sayings_are_true(self):
        for book in BOOKS[2:40]:
            for signs in all_bits(book.many):
                true = tuple(s for s, (members, bit) in enumerate(book.sayings)
                             if sum(signs[e] for e in members) % 2 == bit)
                for size in range(len(true) + 1):
                    for lot in combinations(true, size):
                        members, bit = sum_of(book, lot)
                        self.assertEqual(sum(signs[e] for e in members) % 2, bit)


class Cancelling(unittest.TestCase):
    def test_the_told_basis(self):
        for book in BOOKS:
            found, lots = cancelling(book), own_cancelling(book)
            self.assertEqual(all_made_of(found), lots)
            self.assertEqual(len(lots), 2 ** len(found) - 1)
            least = [lot[0] for lot in found]
            self.assertEqual(least, sorted(set(least)))
            self.assertTrue(all(sum(at in lot for lot in found) == 1 for at in least))
            self.assertTrue(all(is_lot(book, lot) and does_cancel(book, lot) for lot in found))

    def test_how_many(self):
        for book in BOOKS:
            rows = tuple(tuple(int(e in members) for e in range(book.many)) for members, _ in book.sayings)
            k = len(cancelling(book))
            self.assertEqual(k, len(book.sayings) - span_rank(rows))
            odd = sum(bit for bit in odd_sums(book).values())
            self.assertIn(odd, (0, 2 ** (k - 1)) if k else (0,))

    def test_edges(self):
        self.assertEqual(cancelling(LARGE), (tuple(range(16)),))
        self.assertEqual(cancelling(Book(1, (((0,), 1),))), ())
        self.assertEqual(cancelling(Book(1, (((0,), 1),) * 16)), tuple((k, 15) for k in range(15)))
        self.assertEqual(cancelling(Book(16, tuple(((k,), 0) for k in range(16)))), ())
        self.assertEqual(cancelling(CHAIN), ())

    def test_what_is_in_a_piece_cancels_or_is_nothing(self):
        for book in BOOKS:
            for lot in own_cancelling(book):
                for piece in pieces(book):
                    part = tuple(s for s in lot if s in piece)
                    self.assertTrue(part == () or does_cancel(book, part))


class Pieces(unittest.TestCase):
    def test_pieces(self):
        for book in BOOKS:
            self.assertEqual(pieces(book), own_pieces(book))
        self.assertTrue(any(len(pieces(book)) > 1 for book in BOOKS))
        self.assertEqual(pieces(LARGE), (tuple(range(16)),))
        self.assertEqual(pieces(Book(1, (((0,), 1),))), ((0,),))

    def test_pieces_that_are_joined_late(self):
        book = Book(4, (((0,), 0), ((1,), 0), ((2,), 0), ((1, 2), 0), ((0, 3), 0), ((2, 3), 1)))
        self.assertEqual(pieces(book), ((0, 1, 2, 3, 4, 5),))
        apart = Book(4, (((3,), 0), ((0, 2), 0), ((1, 3), 0), ((2,), 0), ((0,), 0)))
        self.assertEqual(pieces(apart), ((0, 2), (1, 3, 4)))

    def test_sayings_with(self):
        for book in BOOKS:
            for e in range(book.many):
                wanted = tuple(s for s, (members, _) in enumerate(book.sayings) if e in members)
                self.assertEqual(sayings_with(book, e), wanted)

    def test_paired(self):
        for book in BOOKS:
            counts = [sum(e in members for members, _ in book.sayings) for e in range(book.many)]
            self.assertIs(is_paired(book), counts == [2] * book.many)
        self.assertIs(is_paired(LARGE), True)
        self.assertIs(is_paired(Book(1, (((0,), 0),))), False)
        self.assertIs(is_paired(Book(1, (((0,), 0),) * 2)), True)
        self.assertIs(is_paired(Book(1, (((0,), 0),) * 3)), False)

    def test_in_a_paired_book_the_basis_are_the_pieces(self):
        chance = Random(2)
        for _ in range(60):
            book = random_paired(chance, 9, 14)
            self.assertIs(is_paired(book), True)
            self.assertEqual(cancelling(book), pieces(book))

    def test_books_of_pieces(self):
        for book in BOOKS:
            for at, piece in enumerate(pieces(book)):
                found, olds = piece_book(book, at)
                self.assertEqual(olds, tuple(sorted({e for s in piece for e in book.sayings[s][0]})))
                self.assertEqual(found.many, len(olds))
                back = tuple((tuple(olds[e] for e in members), bit) for members, bit in found.sayings)
                self.assertEqual(back, tuple(book.sayings[s] for s in piece))
        book = Book(4, (((3,), 1), ((0, 2), 0), ((1, 3), 0), ((2,), 0), ((0,), 0)))
        self.assertEqual(piece_book(book, 0), (Book(2, (((1,), 1), ((0, 1), 0))), (1, 3)))
        self.assertEqual(piece_book(SQUARE, 0), (SQUARE, tuple(range(9))))

    def test_beside(self):
        for one, other in zip(BOOKS[2:40], BOOKS[41:80]):
            if one.many + other.many > 24 or len(one.sayings) + len(other.sayings) > 16:
                continue
            found, count = beside(one, other), len(pieces(one))
            self.assertEqual(found.many, one.many + other.many)
            self.assertEqual(found.sayings[:len(one.sayings)], one.sayings)
            moved = tuple((tuple(e - one.many for e in members), bit)
                          for members, bit in found.sayings[len(one.sayings):])
            self.assertEqual(moved, other.sayings)
            self.assertEqual(len(pieces(found)), count + len(pieces(other)))
            self.assertEqual(piece_book(found, 0)[0], piece_book(one, 0)[0])
            self.assertEqual(piece_book(found, count)[0], piece_book(other, 0)[0])

    def test_beside_within_the_limits(self):
        one, other = Book(12, tuple(((k,), 0) for k in range(12))), Book(12, ((tuple(range(8)), 0), ((8, 9, 10, 11), 1)))
        self.assertEqual(beside(one, other).many, 24)
        eight = Book(1, (((0,), 0),) * 8)
        self.assertEqual(len(beside(eight, eight).sayings), 16)
        self.assertEqual(caught(TooMany, beside, eight, Book(1, (((0,), 0),) * 9)).limit, 16)
        self.assertEqual(caught(TooMany, beside, one, Book(13, ((tuple(range(8)), 0), (tuple(range(8, 13)), 0)))).limit, 24)
        self.assertEqual(caught(TooMany, beside, LARGE, LARGE).limit, 24)
        self.assertEqual(caught(TooMany, beside, LARGE, TRIANGLE).limit, 24)
        self.assertEqual(caught(TooMany, beside, Book(1, (((0,), 0),) * 16), TRIANGLE).limit, 16)


class Turned(unittest.TestCase):
    def test_with_bits(self):
        for book in BOOKS[2:60]:
            for bits in all_bits(len(book.sayings)):
                found = with_bits(book, bits)
                self.assertEqual((found.many, tuple(bit for _, bit in found.sayings)), (book.many, bits))
                self.assertEqual([members for members, _ in found.sayings], [members for members, _ in book.sayings])

    def test_turned(self):
        for book in BOOKS[2:60]:
            for unknowns in all_picks(book.many):
                wanted = tuple((members, (bit + len(set(members) & set(unknowns))) % 2) for members, bit in book.sayings)
                self.assertEqual(turned(book, unknowns).sayings, wanted)
                self.assertEqual(turned(turned(book, unknowns), unknowns), book)
                self.assertEqual(odd_sums(turned(book, unknowns)), odd_sums(book))
        self.assertEqual(turned(LARGE, tuple(range(24))), with_bits(LARGE, (0, *(1,) * 15)))
        self.assertEqual(turned(SQUARE, ()), SQUARE)

    def test_books_come_of_one_another_exactly_if_their_lots_have_equal_sums(self):
        for book in BOOKS[2:50]:
            come = [turned(book, unknowns) for unknowns in all_picks(book.many)]
            for bits in all_bits(len(book.sayings)):
                other = with_bits(book, bits)
                self.assertEqual(other in come, odd_sums(other) == odd_sums(book))


class NoneOfTheseIsTrue(unittest.TestCase):
    def test_a_lot_that_cancels_need_not_be_made_of_pieces(self):
        book = Book(2, (((0, 1), 0), ((0, 1), 0), ((0,), 0)))
        self.assertEqual((does_cancel(book, (0, 1)), pieces(book)), (True, ((0, 1, 2),)))

    def test_a_piece_need_not_have_a_lot_that_cancels(self):
        book = Book(2, (((0,), 0), ((1,), 0), ((1,), 0)))
        self.assertEqual((pieces(book), cancelling(book)), (((0,), (1, 2)), ((1, 2),)))

    def test_where_no_lot_cancels_there_may_be_several_pieces(self):
        book = Book(2, (((0,), 0), ((1,), 0)))
        self.assertEqual((cancelling(book), pieces(book)), ((), ((0,), (1,))))

    def test_an_odd_lot_may_need_more_than_two_sayings(self):
        odd = [lot for lot, bit in odd_sums(TRIANGLE).items() if bit]
        self.assertEqual(odd, [(0, 1, 2)])


class WrongArguments(unittest.TestCase):
    def test_no_book(self):
        for value in NO_BOOK:
            for call, more in ((is_lot, ((),)), (sum_of, ((),)), (does_cancel, ((),)), (is_odd, ((),)), (pieces, ()),
                               (cancelling, ()), (sayings_with, (0,)), (is_paired, ()), (piece_book, (0,)),
                               (beside, (SQUARE,)), (with_bits, ((0,),)), (turned, ((),))):
                caught(InvalidBook, call, value, *more)
            caught(InvalidBook, beside, SQUARE, value)

    def test_no_lot(self):
        for value in (*NOTHING, (6,), (0, 0), (1, 0), [0, 1], tuple(range(7)), (0, True)):
            for call in (sum_of, does_cancel, is_odd):
                caught(InvalidLot, call, SQUARE, value)

    def test_no_index(self):
        for value in NO_INDEX:
            for call, limit in ((sayings_with, 9), (piece_book, 1)):
                self.assertIs(caught(InvalidNumber, call, SQUARE, value).given, value)
                self.assertEqual(caught(InvalidNumber, call, SQUARE, limit).given, limit)

    def test_no_bits_for_the_sayings(self):
        for value in (*NOTHING, (), (0, 0), (0, 0, 0, 0), (0, 0, 2), (0, 0, True), [0, 0, 0], "000", (0, 0, None)):
            caught(InvalidBits, with_bits, TRIANGLE, value)

    def test_no_unknowns(self):
        for value in (*NOTHING, (3,), (0, 0), (1, 0), [0, 1], (0, 1, 2, 3), (0, True)):
            caught(InvalidOperation, turned, TRIANGLE, value)

    def test_which_error_comes_first(self):
        for call in (sum_of, does_cancel, is_odd, sayings_with, piece_book, with_bits, turned, is_lot):
            caught(InvalidBook, call, None, None)
        caught(InvalidBook, beside, LARGE, (LARGE,))
        caught(InvalidBook, beside, None, None)

    def test_nothing_is_changed_and_equal_calls_return_equal_results(self):
        before = (SQUARE.many, SQUARE.sayings)
        for call, more in ((sum_of, ((0, 1),)), (cancelling, ()), (pieces, ()), (piece_book, (0,)), (turned, ((0, 1),)),
                           (beside, (TRIANGLE,)), (with_bits, ((0,) * 6,))):
            self.assertEqual(call(SQUARE, *more), call(SQUARE, *more))
        self.assertEqual((SQUARE.many, SQUARE.sayings), before)


if __name__ == "__main__":
    unittest.main()
