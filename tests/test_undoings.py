"""Promises [12.1] to [12.7], and the words [0.13]: steps, undoings, the papers that they tell, steps that lead back."""

import unittest
from itertools import product
from random import Random
from time import perf_counter

from askedapart.errors import InvalidBook, InvalidOperation, InvalidRow, Refused, TooMany
from askedapart.say.books import Book, beside
from askedapart.say.undoings import is_led_back, is_undoing, led_back, paper_of, put_lot, row_behind, sum_behind
from askedapart.sign.answers import is_operators_or_bar, operators_or_bar
from book_samples import bent, cancelling_lots, hidden, lot_bit, own_is_paper
from graph_samples import check_errors
from operator_samples import LETTERS, own_times
from samples import (CHAIN, LARGE, LONG, LONGEST, NOTHING, PENTAGRAM, SQUARE, TRIANGLE, caught, deep, random_book, random_paired,
                     small_books)
from undoing_samples import (LAID, UNDONE, moved, own_is_undoing, own_lot, own_rows, own_step, own_sum, own_walk_steps,
                             some_steps, with_swaps)

CHANCE = Random(12)
BOOKS = [*small_books(40, seed=121), SQUARE, PENTAGRAM, TRIANGLE, CHAIN, LARGE, random_book(CHANCE, 24, 16),
         *[random_paired(CHANCE, 8, 14) for _ in range(10)], Book(8, ((tuple(range(8)), 1), (tuple(range(8)), 0)))]
EIGHT = Book(8, ((tuple(range(8)), 1), (tuple(range(8)), 0)))
FOURS = Book(4, (((0, 1, 2, 3), 0), ((0, 1, 2, 3), 1), ((0, 2), 1), ((1, 3), 0), ((0, 1), 0), ((2, 3), 1)))
FOURS_UNDONE = (("put", 0, 0, (0, 1, 2, 3)), ("put", 4, 1, (3, 2, 1, 0)), *[("cancel", at) for at in (3, 2, 1, 0)])
EIGHT_UNDONE = (("put", 0, 0, tuple(range(8))), ("put", 8, 1, tuple(range(7, -1, -1))), *[("cancel", at) for at in range(7, -1, -1)])
NO_BOOK = tuple(value for value in NOTHING if not isinstance(value, Book))
NO_STEPS = (*[value for value in NOTHING if value != ()], ("put", 0, 0, (0, 1)), [("cancel", 0)], (["cancel", 0],), (("cancel",),),
            (("cancel", -1),), (("cancel", 201),), (("cancel", True),), (("cancel", None),), (("cancel", 0, 0),), (("cancel", LONG),),
            (("swap", 0),), (("swap", 0, 3),), (("swap", 0, -1),), (("swap", 0, True),), (("swap", 201, 0),), (("swap", 0, 0, 0),),
            (("put", 0, 0),), (("put", 0, 0, (0,)),), (("put", 0, 0, (0, 2)),), (("put", 0, 0, (0, 0)),), (("put", 0, 0, [0, 1]),),
            (("put", 0, 0, (0, True)),), (("put", 0, 3, (0, 1)),), (("put", 201, 0, (0, 1)),), (("put", -1, 0, (0, 1)),),
            (("put", 0, 0, (0, 1), 0),), (("put", 0, True, (0, 2)),), (("put", 0, 0, None),), (("put", 0, 0, (0, 1, 1)),),
            (("what", 0),), (("cancel", 0),) * 4001, (*UNDONE, None), (UNDONE,), (("put", 0, LONG, (0, 1)),), ((0, 0),), ("cancel", 0),
            (("put", 0, 0, (0, LONG)),), (("put", 0, 0, ((0,), (1,))),), ((["cancel"], 0),), (({}, 0),))


def some_row(book, size):
    """A row of whatever unknowns."""
    return tuple(CHANCE.randrange(book.many) for _ in range(size))


class Examples(unittest.TestCase):
    def test_examples(self):
        self.assertEqual([row_behind(TRIANGLE, (), LAID), sum_behind(TRIANGLE, LAID), put_lot(TRIANGLE, LAID)],
                         [(2, 1, 1, 2), 1, (0, 1, 2)])
        self.assertEqual([is_undoing(TRIANGLE, UNDONE), paper_of(TRIANGLE, UNDONE)[0]], [True, (0, 1, 2)])
        found = caught(Refused, row_behind, SQUARE, (1, 2), (("swap", 0, 0), ("cancel", 0)))
        self.assertEqual(found.reason, ("step", 1))


class Steps(unittest.TestCase):
    def test_rows_behind_steps(self):
        for book in BOOKS:
            for size in (0, 3, 30):
                row = some_row(book, size)
                steps, behind = some_steps(CHANCE, book, row, 40, 60)
                self.assertEqual(row_behind(book, row, steps), behind)
                self.assertEqual(sum_behind(book, steps), own_sum(book, steps))
                self.assertEqual(put_lot(book, steps), own_lot(steps))
            self.assertEqual((row_behind(book, row, ()), sum_behind(book, ()), put_lot(book, ())), (row, 0, ()))

    def test_each_single_step(self):
        # All steps at all places of a few rows, those that cannot be done among them.
        steps = [("cancel", at) for at in range(6)] + [("swap", at, s) for at in range(6) for s in range(3)]
        steps += [("put", at, s, members) for at in range(6) for s, (a, b) in enumerate(((0, 1), (0, 2), (1, 2)))
                  for members in ((a, b), (b, a))]
        for row in [row for size in range(5) for row in product(range(3), repeat=size)]:
            for step in steps:
                wanted = own_step(TRIANGLE, row, step)
                if wanted is None:
                    self.assertEqual(caught(Refused, row_behind, TRIANGLE, row, (step,)).reason, ("step", 0))
                else:
                    self.assertEqual(row_behind(TRIANGLE, row, (step,)), wanted)

    def test_a_step_that_cannot_be_done_at_each_place(self):
        for book in BOOKS[::3]:
            row = some_row(book, 5)
            steps, _ = some_steps(CHANCE, book, row, 12, 40)
            rows = own_rows(book, row, steps)
            for index in range(len(steps) + 1):
                for wrong in (("cancel", 200), ("swap", len(rows[index]), 0), ("put", len(rows[index]) + 1, 0, book.sayings[0][0])):
                    value = (*steps[:index], wrong, *steps[index:], wrong)
                    self.assertEqual(caught(Refused, row_behind, book, row, value).reason, ("step", index))
                    # Their sum and their lot are told nevertheless.
                    self.assertEqual((sum_behind(book, value), put_lot(book, value)), (own_sum(book, value), own_lot(value)))
                    self.assertIs(is_undoing(book, value), False)

    def test_two_hundred_unknowns(self):
        row = (0,) * 198
        self.assertEqual(len(row_behind(TRIANGLE, row, (("put", 198, 0, (0, 1)),))), 200)
        self.assertEqual(caught(Refused, row_behind, TRIANGLE, row + (0,), (("put", 0, 0, (0, 1)),)).reason, ("step", 0))
        self.assertEqual(row_behind(TRIANGLE, row, (("put", 0, 0, (0, 1)), ("cancel", 198), ("cancel", 196)))[:2], (0, 1))
        full = (0,) * 200
        self.assertEqual(row_behind(TRIANGLE, full, (("cancel", 198),) + (("cancel", 0),) * 99), ())
        self.assertEqual(caught(Refused, row_behind, TRIANGLE, full, (("cancel", 199),)).reason, ("step", 0))
        self.assertEqual(row_behind(EIGHT, full[8:], (("put", 192, 0, tuple(range(7, -1, -1))),))[-1], 0)
        self.assertEqual(caught(Refused, row_behind, EIGHT, full[7:], (("put", 0, 0, tuple(range(8))),)).reason, ("step", 0))
        self.assertEqual(row_behind(TRIANGLE, (1, 2), (("swap", 0, 2),)), (2, 1))

    def test_swaps_ask_for_their_own_saying(self):
        for s, good in ((0, True), (1, False), (2, False)):
            if good:
                self.assertEqual(row_behind(TRIANGLE, (0, 1), (("swap", 0, s),)), (1, 0))
            else:
                self.assertEqual(caught(Refused, row_behind, TRIANGLE, (0, 1), (("swap", 0, s),)).reason, ("step", 0))
        self.assertEqual(caught(Refused, row_behind, TRIANGLE, (0, 0), (("swap", 0, 0),)).reason, ("step", 0))

    def test_operators_are_kept(self):
        # A put multiplies the product of the row by the sign of its bit, other steps change nothing.
        for book, operators in [(SQUARE, LETTERS)] + [hidden(CHANCE, 4, 5, 8) for _ in range(20)]:
            one = "+" + "I" * (len(operators[0]) - 1)
            row = some_row(book, 10)
            steps, behind = some_steps(CHANCE, book, row, 30, 50)
            before = own_times(one, *[operators[e] for e in row])
            after = own_times(one, *[operators[e] for e in behind])
            self.assertEqual(after, ((before[0] + 2 * own_sum(book, steps)) % 4, before[1]))
            self.assertIs(is_undoing(book, steps), False)


def undoings():
    """Books with undoings: plain ones, with swaps, put several times, with steps that take themselves back, begun elsewhere."""
    two = beside(TRIANGLE, TRIANGLE)
    found = [(TRIANGLE, UNDONE), (FOURS, FOURS_UNDONE), (EIGHT, EIGHT_UNDONE), (two, UNDONE)]
    for book, steps in list(found):
        for _ in range(25):
            steps = with_swaps(CHANCE, steps) if CHANCE.randrange(2) else steps
            ahead, row = some_steps(CHANCE, book, (), CHANCE.randrange(50), 60)
            within = moved(steps, CHANCE.randint(0, len(row)))
            found.append((book, (*ahead, *within, *led_back(book, (), ahead))))
        found.append((book, steps * 3))
    return found


UNDOINGS = undoings()


class Undoings(unittest.TestCase):
    def test_the_judge(self):
        judged = []
        for book, steps in UNDOINGS:
            self.assertTrue(own_is_undoing(book, steps))
            self.assertIs(is_undoing(book, steps), True)
            for _ in range(8):
                at = CHANCE.randrange(len(steps))
                other = steps[CHANCE.randrange(len(steps))]
                for value in (steps[:at] + steps[at + 1:], steps[:at] + (other,) + steps[at:], steps[:at] + (other,) + steps[at + 1:]):
                    wanted = own_is_undoing(book, value)
                    judged.append(wanted)
                    self.assertIs(is_undoing(book, value), wanted)
            for wrong in (list(steps), steps * 2, (steps,), steps[0], steps[::-1], (), steps[:-1]):
                self.assertIs(is_undoing(book, wrong), False)
        self.assertEqual(set(judged), {True, False})
        for book in BOOKS:
            steps, _ = some_steps(CHANCE, book, (), 20, 40)
            self.assertIs(is_undoing(book, steps), own_is_undoing(book, steps))

    def test_even_sums_are_none(self):
        self.assertIs(is_undoing(bent(TRIANGLE, 0), UNDONE), False)
        self.assertIs(is_undoing(bent(bent(TRIANGLE, 0), 1), UNDONE), True)
        self.assertIs(is_undoing(TRIANGLE, UNDONE * 2), False)

    def test_four_thousand_steps(self):
        again = (("put", 0, 0, (0, 1)), ("put", 0, 0, (1, 0)), ("cancel", 1), ("cancel", 0))
        plain = UNDONE + again * 998 + (("put", 0, 0, (0, 1)),)
        most = UNDONE + again * 998
        self.assertEqual((len(most), len(plain)), (3998, 3999))
        swaps = (("put", 0, 0, (0, 1)), ("swap", 0, 0), ("swap", 0, 0), ("put", 0, 0, (1, 0)), ("cancel", 1), ("cancel", 0))
        exact = UNDONE + again * 997 + swaps
        self.assertEqual(len(exact), 4000)
        begun = perf_counter()
        self.assertIs(is_undoing(TRIANGLE, exact), True)
        self.assertTrue(own_is_paper(TRIANGLE, *paper_of(TRIANGLE, exact)))
        self.assertLess(perf_counter() - begun, 3)
        self.assertIs(is_undoing(TRIANGLE, exact + again), False)
        caught(InvalidOperation, paper_of, TRIANGLE, exact + again)
        caught(InvalidOperation, sum_behind, TRIANGLE, exact + (("cancel", 0),))
        self.assertEqual(sum_behind(TRIANGLE, exact), 1)

    def test_odd_lots(self):
        for book in BOOKS:
            steps, row = some_steps(CHANCE, book, (), 30, 60)
            lot = put_lot(book, steps)
            for e in range(book.many):
                self.assertEqual(row.count(e) % 2, sum(e in book.sayings[at][0] for at in lot) % 2)
        for book, steps in UNDOINGS:
            lot = put_lot(book, steps)
            self.assertIn(lot, cancelling_lots(book))
            self.assertEqual(lot_bit(book, lot), 1)

    def test_no_undoing_where_operators_are_right(self):
        self.assertEqual(operators_or_bar(SQUARE)[0], "operators")
        for _ in range(30):
            steps, _ = some_steps(CHANCE, SQUARE, (), 60, 60)
            self.assertIs(is_undoing(SQUARE, (*steps, *led_back(SQUARE, (), steps))), False)


class Papers(unittest.TestCase):
    def test_papers_of_undoings(self):
        for book, steps in UNDOINGS:
            found = paper_of(book, steps)
            self.assertEqual(len(found), 3)
            self.assertEqual(found[0], own_lot(steps))
            self.assertTrue(own_is_paper(book, *found), (book.sayings, steps, found))
            self.assertIs(is_operators_or_bar(book, ("barred", *found)), True)

    def test_rows_near_two_hundred(self):
        # An undoing within a row of nearly two hundred, whose unknowns its puts pass.
        for book, inner in ((TRIANGLE, UNDONE), (EIGHT, EIGHT_UNDONE)):
            members = book.sayings[0][0]
            many = (198 - 16) // len(members)
            ahead = tuple(("put", 0, 0, members) for _ in range(many))
            row = own_walk_steps(book, (), ahead)
            back = tuple(step for _ in range(many) for step in (
                ("put", 0, 0, members[::-1]), *[("cancel", at) for at in range(len(members) - 1, -1, -1)]))
            for place in (0, 1, len(row)):
                steps = (*ahead, *moved(inner, place), *back)
                self.assertTrue(own_is_undoing(book, steps))
                begun = perf_counter()
                self.assertTrue(own_is_paper(book, *paper_of(book, steps)))
                self.assertLess(perf_counter() - begun, 3)


class LedBack(unittest.TestCase):
    def check(self, book, row, steps):
        """Steps that lead back are right by their meaning."""
        behind = own_walk_steps(book, row, steps)
        found = led_back(book, row, steps)
        self.assertLessEqual(len(found), 4000)
        self.assertEqual(own_walk_steps(book, behind, found), row)
        self.assertEqual(own_sum(book, found), own_sum(book, steps))
        self.assertIs(is_led_back(book, row, steps, found), True)
        return found

    def test_led_back(self):
        for book in BOOKS:
            for size in (0, 7, 100):
                row = some_row(book, size)
                steps, _ = some_steps(CHANCE, book, row, CHANCE.randrange(120), 170)
                self.check(book, row, steps)
            self.assertEqual(own_walk_steps(book, row, self.check(book, row, ())), row)

    def test_rows_near_the_bound(self):
        for book in (EIGHT, TRIANGLE, SQUARE, LARGE, CHAIN):
            for row in (some_row(book, 180), (0, 0) * 90, some_row(book, 172)):
                steps, _ = some_steps(CHANCE, book, row, 400, 180)
                self.check(book, row, steps)
        # All sayings of one member.
        ones = Book(2, (((0,), 1), ((1,), 0)))
        steps, _ = some_steps(CHANCE, ones, (), 400, 180)
        self.check(ones, (), steps)

    def test_too_many(self):
        put, away = ("put", 0, 0, (0, 1)), ("cancel", 0)
        row = (0, 0) * 89
        self.check(TRIANGLE, row, (put,))
        for start, steps in (((0, 0) * 90, (put,)), (row, (put, put)), ((0, 0) * 91, ()), ((0, 0) * 91, (away,)), ((0,) * 181, ()),
                             (row, (put, put, *[("swap", 0, 0)] * 400)), ((0,) * 200, (away,))):
            self.assertEqual(caught(TooMany, led_back, TRIANGLE, start, steps).limit, 180)
        self.check(TRIANGLE, (0,) * 180, ())
        swaps = (("swap", 0, 0),) * 400
        self.check(TRIANGLE, (0, 1), swaps)
        self.assertEqual(caught(TooMany, led_back, TRIANGLE, (0, 1), swaps + swaps[:1]).limit, 400)
        # What cannot be done comes ahead.
        self.assertEqual(caught(Refused, led_back, TRIANGLE, (0,) * 181, (("cancel", 190),)).reason, ("step", 0))
        self.assertEqual(caught(Refused, led_back, TRIANGLE, (0, 1), (*swaps, *swaps, ("cancel", 9))).reason, ("step", 800))
        # The judge knows neither bound.
        self.assertIs(is_led_back(TRIANGLE, (0, 1), swaps + swaps[:1], swaps[:1]), True)
        self.assertIs(is_led_back(TRIANGLE, (0,) * 200, (away,), (("put", 0, 0, (0, 1)), ("put", 0, 0, (0, 1)))), False)
        self.assertIs(is_led_back(TRIANGLE, (0,) * 200, (), ()), True)

    def test_four_hundred_steps(self):
        for book in (EIGHT, SQUARE):
            ahead = (("put", 0, 0, book.sayings[0][0]), ("put", 0, 0, book.sayings[0][0][::-1]))
            size = len(book.sayings[0][0])
            steps = (*ahead, *[("cancel", at) for at in range(size - 1, -1, -1)])
            steps = (steps * 200)[:400]
            begun = perf_counter()
            self.check(book, (), steps)
            self.assertLess(perf_counter() - begun, 3)

    def test_the_judge(self):
        judged = []
        for book in BOOKS[::2]:
            row = some_row(book, 6)
            steps, behind = some_steps(CHANCE, book, row, 9, 40)
            found = led_back(book, row, steps)
            more, other = some_steps(CHANCE, book, behind, 6, 60)
            detour = (*more, *led_back(book, behind, more))
            for value in (found, detour + found, found + found[-1:], found[1:], found[:-1], detour, (), steps):
                wanted = own_walk_steps(book, behind, value) == row and own_sum(book, value) == own_sum(book, steps)
                judged.append(wanted)
                self.assertIs(is_led_back(book, row, steps, value), wanted)
            for wrong in (list(found), (found,), (*found, None), 0, found + (("cancel", 201),)):
                self.assertIs(is_led_back(book, row, steps, wrong), False)
        self.assertEqual(set(judged), {True, False})
        # The sum must be the same, too: an undoing more is one too many.
        self.assertIs(is_led_back(TRIANGLE, (0,), (), UNDONE), False)
        self.assertIs(is_led_back(TRIANGLE, (0,), (), UNDONE * 2), True)
        self.assertIs(is_led_back(TRIANGLE, (0,), UNDONE, UNDONE), True)
        self.assertIs(is_led_back(TRIANGLE, (0,), UNDONE, ()), False)


class NoneOfTheseIsTrue(unittest.TestCase):
    def test_an_odd_lot_that_cancels_and_a_row_that_is_left(self):
        steps = (("put", 0, 0, (0, 1)), ("put", 1, 1, (0, 2)), ("put", 3, 2, (1, 2)))
        self.assertEqual(put_lot(TRIANGLE, steps), (0, 1, 2))
        self.assertNotEqual(row_behind(TRIANGLE, (), steps), ())

    def test_an_undoing_need_not_put_each_saying(self):
        self.assertIs(is_undoing(beside(TRIANGLE, TRIANGLE), UNDONE), True)
        self.assertIs(is_undoing(FOURS, FOURS_UNDONE), True)

    def test_an_odd_lot_that_cancels_without_an_undoing(self):
        self.assertEqual(cancelling_lots(SQUARE), [(0, 1, 2, 3, 4, 5)])
        self.assertEqual(operators_or_bar(SQUARE)[0], "operators")


class WrongArguments(unittest.TestCase):
    ROWS = (*[value for value in NOTHING if value not in ((), (0,), (0, 1), (2,), (0, 2), (2, 1))], (3,), [0], (True,), (0,) * 201, (-1,),
            (0, LONG), (0, None), "01", (0, (1,)))

    def test_wrong_arguments(self):
        book = {0: (InvalidBook, NO_BOOK)}
        steps = {**book, 1: (InvalidOperation, NO_STEPS)}
        rows = {**book, 1: (InvalidRow, self.ROWS), 2: (InvalidOperation, NO_STEPS)}
        for call, good, bad in (
                (row_behind, (TRIANGLE, (), LAID), rows), (sum_behind, (TRIANGLE, LAID), steps), (put_lot, (TRIANGLE, LAID), steps),
                (is_undoing, (TRIANGLE, None), book),
                (paper_of, (TRIANGLE, UNDONE), {**book, 1: (InvalidOperation, (*NO_STEPS, (), LAID, UNDONE[:-1], UNDONE * 2))}),
                (led_back, (TRIANGLE, (), LAID), rows), (is_led_back, (TRIANGLE, (), LAID, None), rows)):
            check_errors(call, good, bad)

    def test_steps_that_cannot_be_done_come_behind(self):
        for call, more in ((row_behind, ()), (led_back, ()), (is_led_back, (None,))):
            caught(InvalidOperation, call, TRIANGLE, (), (("cancel", 0), ("cancel", 201)), *more)
            self.assertEqual(caught(Refused, call, TRIANGLE, (), (("cancel", 0), ("cancel", 1)), *more).reason, ("step", 0))
            self.assertEqual(caught(Refused, call, TRIANGLE, (), (*LAID, ("cancel", 200)), *more).reason, ("step", 4))

    def test_the_judged_value_is_never_an_error(self):
        for value in (*NO_STEPS, deep(("cancel", 0), 5, tuple), LONGEST):
            self.assertIs(is_undoing(TRIANGLE, value), False)
            self.assertIs(is_led_back(TRIANGLE, (), LAID, value), False)
        self.assertIs(is_undoing(TRIANGLE, ()), False)

    def test_nothing_is_changed_and_equal_calls_return_equal_results(self):
        for book, steps in UNDOINGS[::9]:
            self.assertEqual(paper_of(book, steps), paper_of(book, steps))
        self.assertEqual(led_back(TRIANGLE, (), LAID), led_back(TRIANGLE, (), LAID))


if __name__ == "__main__":
    unittest.main()
