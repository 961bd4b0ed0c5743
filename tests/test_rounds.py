"""Promises [13.1] to [13.6]: growths, rows by turnings, what is left, undoings by turnings and back."""

import unittest
from itertools import permutations, product
from random import Random
from time import perf_counter

from askedapart.errors import InvalidBook, InvalidNumber, InvalidOperation, InvalidRow, InvalidTurning, Refused
from askedapart.main.rounds import is_growth, is_undoing_by, left_of, row_by, turning_by, undoing_by
from askedapart.net.graphs import Graph
from askedapart.say.books import Book, beside
from askedapart.sign.answers import is_operators_or_bar
from askedapart.say.undoings import paper_of
from book_samples import BOTH, barred_book, bent, even_book, fits, odd_bits, paired_of, plain_graph, planar_book
from graph_samples import FLAT, FOUR, GRAPHLIKE, GRID, all_turnings, check_errors, own_handles, own_pieces, random_turning
from samples import CHAIN, LONG, LONGEST, NOTHING, PENTAGRAM, SQUARE, TRIANGLE, caught, deep, random_paired
from undoing_samples import UNDONE, own_is_undoing, own_lot, own_walk_steps, with_swaps

CHANCE = Random(13)
LINES = ((0, 1, 2), (3, 4, 5), (6, 7, 8), (0, 3, 6), (1, 4, 7), (2, 5, 8))
TURNS = ((0, 1), (0, 2), (1, 2))
TETRA = paired_of(FOUR, (1, 0, 0, 0))
TWO = beside(TRIANGLE, TRIANGLE)
DRAWN = [planar_book(CHANCE, 12, 24) for _ in range(40)] + [(TRIANGLE, TURNS), (TETRA, FLAT)]
WIDE = paired_of(Graph(16, GRID.lines), odd_bits(CHANCE, 16))
NO_BOOK = tuple(value for value in NOTHING if not isinstance(value, Book))


def turned_books():
    """Paired books with whatever turnings, with handles and without, in one piece and several."""
    found = list(DRAWN)
    for k in range(60):
        book = random_paired(CHANCE, 9, 14) if k % 3 else barred_book(CHANCE, drawn=2)
        found.append((book, random_turning(CHANCE, plain_graph(book))))
    for (one, turning), (other, more) in zip(DRAWN[:12], DRAWN[12:24]):
        if one.many + other.many <= 24 and len(one.sayings) + len(other.sayings) <= 16:
            moved = tuple(tuple(one.many + e for e in turn) for turn in more)
            found.append((beside(one, other), turning + moved))
    return found


TURNED = turned_books()


def own_pieces_of(book):
    """The pieces of a paired book."""
    return own_pieces(plain_graph(book))


def some_growth(book, piece, whole=True):
    """A growth of a piece, grown by whatever unknowns."""
    lot = own_pieces_of(book)[piece]
    come, growth = {lot[0]}, []
    while len(come) < len(lot) and (whole or CHANCE.randrange(4)):
        ends = {e: {at for at, (members, _) in enumerate(book.sayings) if e in members} for e in range(book.many)}
        e = CHANCE.choice([e for e in ends if len(ends[e] & come) == 1])
        growth.append(e)
        come |= ends[e]
    return tuple(growth)


def own_is_growth(book, piece, value):
    """By the words of [13.1]."""
    come = {own_pieces_of(book)[piece][0]}
    for e in value:
        ends = {at for at, (members, _) in enumerate(book.sayings) if e in members}
        if len(ends & come) != 1:
            return False
        come |= ends
    return True


def own_row(book, turning, piece, growth):
    """The row by walking round all that has been come to: from saying to saying over unknowns of the growth."""
    graph = plain_graph(book)
    first = own_pieces_of(book)[piece][0]
    knot, at, row = first, 0, []
    # Each step crosses the line, or goes over it to the other saying, and on behind it there.
    while True:
        line = turning[knot][at % len(turning[knot])]
        if line in growth:
            knot = sum(graph.lines[line]) - knot
            at = turning[knot].index(line) + 1
        else:
            row.append(line)
            at += 1
        if (knot, at % len(turning[knot])) == (first, 0):
            return tuple(row)


def own_left(row):
    """What is left if the first two equal neighbours go, again and again."""
    row = list(row)
    while True:
        at = next((k for k in range(len(row) - 1) if row[k] == row[k + 1]), None)
        if at is None:
            return tuple(row)
        del row[at:at + 2]


def is_rotation(one, other):
    """Whether one is the other one, begun at any of its members."""
    return any(one == other[k:] + other[:k] for k in range(len(other)))


def own_is_undoing_by(book, turning, piece, value):
    """By the words of the interface, for steps that are such."""
    puts = [step for step in value if step[0] == "put"]
    return (own_is_undoing(book, value) and sorted(step[2] for step in puts) == list(own_pieces_of(book)[piece])
            and all(step[0] != "swap" for step in value) and all(is_rotation(step[3], turning[step[2]]) for step in puts))


def some_plain_undoing(book, turning, piece):
    """An undoing of one put for each saying, not as the package tells it: cancels come as they can, and late."""
    lot = own_pieces_of(book)[piece]
    for _ in range(400):
        growth = some_growth(book, piece)
        order, row, steps = [lot[0]], (), []
        start = CHANCE.randrange(len(turning[lot[0]]))
        row = turning[lot[0]][start:] + turning[lot[0]][:start]
        steps.append(("put", 0, lot[0], row))
        for e in growth:
            saying = next(at for at, (members, _) in enumerate(book.sayings) if e in members and at not in order)
            order.append(saying)
            turn = turning[saying]
            at = row.index(e)
            k = turn.index(e)
            if CHANCE.randrange(2):
                members, place = turn[k:] + turn[:k], at + 1
            else:
                members, place = turn[k + 1:] + turn[:k + 1], at
            steps.append(("put", place, saying, members))
            row = row[:place] + members + row[place:]
            for _ in range(CHANCE.randrange(3)):
                free = [k for k in range(len(row) - 1) if row[k] == row[k + 1]]
                # An unknown of the growth must go with its own; what stands twice beside itself goes alike.
                if free:
                    k = CHANCE.choice(free)
                    steps.append(("cancel", k))
                    row = row[:k] + row[k + 2:]
            if any(g not in row for g in growth[len(order) - 1:]):
                break
        else:
            while True:
                free = [k for k in range(len(row) - 1) if row[k] == row[k + 1]]
                if not free:
                    break
                k = CHANCE.choice(free)
                steps.append(("cancel", k))
                row = row[:k] + row[k + 2:]
            if row == ():
                return tuple(steps)
    return None


class Examples(unittest.TestCase):
    def test_examples(self):
        self.assertEqual([row_by(TRIANGLE, TURNS, 0, growth) for growth in ((), (0,), (0, 1), (1, 2))],
                         [(0, 1), (2, 1), (2, 2), (0, 0)])
        self.assertEqual([left_of((2, 2)), left_of((0, 1, 2, 2, 1, 3)), is_growth(TRIANGLE, 0, (2,)),
                          is_growth(SQUARE, 0, (0, 3, 4, 5, 6))], [(), (0, 3), False, True])
        self.assertEqual([left_of(row_by(SQUARE, LINES, 0, (0, 3, 6, 4, 5))) != (), len(undoing_by(TRIANGLE, TURNS, 0))], [True, 6])
        self.assertEqual(caught(Refused, undoing_by, SQUARE, LINES, 0).reason, ("handles", 1))


class Growths(unittest.TestCase):
    def test_the_judge(self):
        judged = []
        for book, _ in TURNED[::2]:
            for piece in range(len(own_pieces_of(book))):
                for whole in (True, False):
                    growth = some_growth(book, piece, whole)
                    self.assertIs(is_growth(book, piece, growth), True)
                    self.assertIs(is_growth(book, piece, list(growth)), False)
                    for value in (growth[::-1], growth[1:], growth + growth[:1], growth + (CHANCE.randrange(book.many),),
                                  tuple(CHANCE.sample(growth, len(growth))), (CHANCE.randrange(book.many),)):
                        wanted = own_is_growth(book, piece, value)
                        judged.append(wanted)
                        self.assertIs(is_growth(book, piece, value), wanted)
                self.assertIs(is_growth(book, piece, ()), True)
        self.assertEqual(set(judged), {True, False})

    def test_all_short_tuples(self):
        for book in (TRIANGLE, TWO, TETRA, Book(2, (((0, 1), 1), ((0, 1), 0)))):
            for piece in range(len(own_pieces_of(book))):
                for size in range(4):
                    for value in product(range(min(book.many, 6)), repeat=size):
                        self.assertIs(is_growth(book, piece, value), own_is_growth(book, piece, value))

    def test_the_judged_value_is_never_an_error(self):
        for value in (*NOTHING, (True,), (0, True), (LONG,), (3,), (-1,), [0], (0, None), ("0",), ((0,),), (0,) * 20, deep(0, 8, tuple)):
            plain = type(value) is tuple and all(type(e) is int and 0 <= e < 3 for e in value)
            self.assertIs(is_growth(TRIANGLE, 0, value), plain and own_is_growth(TRIANGLE, 0, value))
        self.assertIs(is_growth(TRIANGLE, 0, (False,)), False)


class Rows(unittest.TestCase):
    def test_rows(self):
        for book, turning in TURNED:
            for piece in range(len(own_pieces_of(book))):
                for whole in (True, False, True):
                    growth = some_growth(book, piece, whole)
                    self.assertEqual(row_by(book, turning, piece, growth), own_row(book, turning, piece, growth))

    def test_growths_begun_anywhere(self):
        # The turns begun elsewhere are another value, and another row, but the same walk.
        for book, turning in TURNED[::4]:
            growth = some_growth(book, 0)
            other = tuple(turn[k:] + turn[:k] for turn in turning for k in [CHANCE.randrange(len(turn))])
            found = row_by(book, other, 0, growth)
            self.assertEqual(found, own_row(book, other, 0, growth))
            one = row_by(book, turning, 0, growth)
            self.assertTrue(one == found == () or is_rotation(found, one))

    def test_what_is_left(self):
        for _ in range(300):
            row = tuple(CHANCE.randrange(CHANCE.choice((2, 4, 24))) for _ in range(CHANCE.randrange(30)))
            self.assertEqual(left_of(row), own_left(row))
            self.assertEqual(left_of(row + row[::-1]), ())
            # The same in whatever sequence they go.
            other = list(row)
            while True:
                free = [k for k in range(len(other) - 1) if other[k] == other[k + 1]]
                if not free:
                    break
                k = CHANCE.choice(free)
                del other[k:k + 2]
            self.assertEqual(left_of(row), tuple(other))
        self.assertEqual((left_of(()), left_of((0,) * 200), left_of((23,) * 199)), ((), (), (23,)))

    def test_nothing_left_exactly_if_the_turning_draws_the_piece(self):
        kinds = set()
        for book, turning in TURNED:
            for piece, h in enumerate(own_handles(plain_graph(book), turning)):
                for _ in range(3):
                    found = left_of(row_by(book, turning, piece, some_growth(book, piece)))
                    kinds.add(h)
                    self.assertEqual(found == (), h == 0)
        self.assertTrue({0, 1, 2} <= kinds)

    def test_all_turnings_of_small_books(self):
        for graph in (FOUR, Graph(2, ((0, 1),) * 4), Graph(3, ((0, 1), (0, 1), (1, 2), (1, 2), (0, 2)))):
            book = paired_of(graph, odd_bits(CHANCE, graph.many))
            for turning in all_turnings(graph):
                growth = some_growth(book, 0)
                self.assertEqual(left_of(row_by(book, turning, 0, growth)) == (), own_handles(graph, turning) == (0,))


class UndoingsBy(unittest.TestCase):
    def test_undoings_by_turnings(self):
        seen = set()
        for book, turning in TURNED:
            found = own_handles(plain_graph(book), turning)
            for piece, lot in enumerate(own_pieces_of(book)):
                odd = sum(book.sayings[at][1] for at in lot) % 2
                if not odd:
                    self.assertEqual(caught(Refused, undoing_by, book, turning, piece).reason, ("even",))
                    seen.add("even")
                elif found[piece]:
                    self.assertEqual(caught(Refused, undoing_by, book, turning, piece).reason, ("handles", found[piece]))
                    seen.add("handles")
                else:
                    steps = undoing_by(book, turning, piece)
                    self.assertTrue(own_is_undoing_by(book, turning, piece, steps))
                    unknowns = len({e for at in lot for e in book.sayings[at][0]})
                    self.assertEqual(sum(step[0] == "cancel" for step in steps), unknowns)
                    self.assertEqual(len(steps), unknowns + len(lot))
                    self.assertIs(is_undoing_by(book, turning, piece, steps), True)
                    self.assertTrue(is_operators_or_bar(book, ("barred", *paper_of(book, steps))))
                    seen.add("drawn")
        self.assertEqual(seen, {"even", "handles", "drawn"})

    def test_sixteen_sayings(self):
        ring = Graph(16, tuple(tuple(sorted((k, (k + 1) % 16))) for k in range(16)))
        for graph in (ring, GRID):
            book = paired_of(graph, odd_bits(CHANCE, 16))
            for turning in ([tuple(sorted(members)) for members, _ in book.sayings],):
                turning = tuple(turning)
                begun = perf_counter()
                if own_handles(graph, turning) == (0,):
                    self.assertTrue(own_is_undoing_by(book, turning, 0, undoing_by(book, turning, 0)))
                else:
                    self.assertEqual(caught(Refused, undoing_by, book, turning, 0).reason, ("handles", own_handles(graph, turning)[0]))
                self.assertLess(perf_counter() - begun, 2)

    def test_the_judge_takes_undoings_that_the_package_would_not_tell(self):
        many = 0
        for book, turning in DRAWN:
            steps = some_plain_undoing(book, turning, 0)
            if steps is not None:
                many += steps != undoing_by(book, turning, 0)
                self.assertTrue(own_is_undoing_by(book, turning, 0, steps))
                self.assertIs(is_undoing_by(book, turning, 0, steps), True)
                other = turning_by(book, steps)
                self.assertEqual(own_handles(plain_graph(book), other), (0,))
                self.assertTrue(all(is_rotation(one, two) for one, two in zip(other, turning)))
        self.assertGreater(many, 20)

    def test_and_no_other_value(self):
        judged = []
        for book, turning in DRAWN:
            steps = undoing_by(book, turning, 0)
            swapped = with_swaps(CHANCE, steps)
            mirrored = tuple(turn[::-1] for turn in turning)
            back = undoing_by(book, mirrored, 0)
            for value in (steps, swapped, steps[:-1], steps + steps, steps + (("cancel", 0),), back, (*steps, *steps, *steps), ()):
                wanted = own_is_undoing_by(book, turning, 0, value)
                judged.append(wanted)
                self.assertIs(is_undoing_by(book, turning, 0, value), wanted)
            for value in (list(steps), (steps,), None, steps[0], (*steps, None)):
                self.assertIs(is_undoing_by(book, turning, 0, value), False)
            # The same sayings put with their members in another sequence.
            other = random_turning(CHANCE, plain_graph(book))
            self.assertIs(is_undoing_by(book, other, 0, steps), own_is_undoing_by(book, other, 0, steps))
        self.assertEqual(set(judged), {True, False})

    def test_the_piece_is_asked_for(self):
        moved = tuple((step[0], step[1], step[2] + 3, tuple(e + 3 for e in step[3])) if step[0] == "put" else step for step in UNDONE)
        turning = TURNS + tuple(tuple(e + 3 for e in turn) for turn in TURNS)
        for piece in (0, 1):
            self.assertIs(is_undoing_by(TWO, turning, piece, UNDONE), piece == 0)
            self.assertIs(is_undoing_by(TWO, turning, piece, moved), piece == 1)
            self.assertIs(is_undoing_by(TWO, turning, piece, UNDONE + moved + UNDONE), False)
        self.assertEqual(turning_by(TWO, moved), ((0, 1), (0, 2), (1, 2), (3, 4), (5, 3), (4, 5)))
        self.assertEqual(turning_by(TWO, UNDONE), ((0, 1), (2, 0), (1, 2), (3, 4), (3, 5), (4, 5)))

    def test_even_pieces_and_handles_are_no_error_for_the_judge(self):
        self.assertIs(is_undoing_by(bent(TRIANGLE, 0), TURNS, 0, UNDONE), False)
        self.assertIs(is_undoing_by(SQUARE, LINES, 0, UNDONE), False)
        for value in (*NOTHING, *GRAPHLIKE, UNDONE):
            self.assertIs(is_undoing_by(SQUARE, LINES, 0, value), False)


class TurningsBy(unittest.TestCase):
    def test_back(self):
        for book, turning in TURNED:
            for piece, h in enumerate(own_handles(plain_graph(book), turning)):
                lot = own_pieces_of(book)[piece]
                if h == 0 and sum(book.sayings[at][1] for at in lot) % 2:
                    steps = undoing_by(book, turning, piece)
                    found = turning_by(book, steps)
                    for at, (members, _) in enumerate(book.sayings):
                        self.assertTrue(is_rotation(found[at], turning[at]) if at in lot else found[at] == members)
                    self.assertEqual(own_handles(plain_graph(book), found)[piece], 0)
                    self.assertIs(is_undoing_by(book, found, piece, steps), True)

    def test_each_such_undoing_tells_a_turning_that_draws(self):
        # All rows of members of all sayings put one behind the other, all cancels gone through.
        many = 0
        for book in (TRIANGLE, paired_of(Graph(2, ((0, 1),) * 3), (0, 1)), paired_of(Graph(3, ((0, 1), (0, 1), (1, 2), (0, 2))), (1, 1, 1))):
            for turns in product(*[permutations(members) for members, _ in book.sayings]):
                row = tuple(e for turn in turns for e in turn)
                steps, places, size = [], [], 0
                for at, turn in enumerate(turns):
                    steps.append(("put", size, at, turn))
                    size += len(turn)
                left = list(row)
                while any(left[k] == left[k + 1] for k in range(len(left) - 1)):
                    k = next(k for k in range(len(left) - 1) if left[k] == left[k + 1])
                    del left[k:k + 2]
                    places.append(("cancel", k))
                value = (*steps, *places)
                if left == []:
                    many += 1
                    self.assertEqual(turning_by(book, value), turns)
                    self.assertEqual(own_handles(plain_graph(book), turns), (0,))
                else:
                    caught(InvalidOperation, turning_by, book, value)
        self.assertGreater(many, 5)


class NoneOfTheseIsTrue(unittest.TestCase):
    def test_an_undoing_with_swaps_tells_no_turning(self):
        found = 0
        for book, turning in DRAWN:
            steps = with_swaps(CHANCE, undoing_by(book, turning, 0))
            self.assertTrue(own_is_undoing(book, steps))
            if any(step[0] == "swap" for step in steps):
                caught(InvalidOperation, turning_by, book, steps)
                told = {step[2]: step[3] for step in steps if step[0] == "put"}
                turns = tuple(told[at] for at in range(len(book.sayings)))
                found += own_handles(plain_graph(book), turns) != (0,)
        self.assertGreater(found, 0)

    def test_what_is_left_has_an_unknown_twice(self):
        left = left_of(row_by(SQUARE, LINES, 0, (0, 3, 6, 4, 5)))
        self.assertTrue(left and all(left.count(e) == 2 for e in left))
        self.assertEqual(left_of((0, 1, 0)), (0, 1, 0))

    def test_undoings_with_more_puts(self):
        longer = UNDONE + (("put", 0, 0, (0, 1)), ("put", 0, 0, (1, 0)), ("cancel", 1), ("cancel", 0))
        self.assertEqual(own_lot(longer), own_lot(UNDONE))
        self.assertTrue(own_is_undoing(TRIANGLE, longer))
        caught(InvalidOperation, turning_by, TRIANGLE, longer)
        self.assertIs(is_undoing_by(TRIANGLE, ((0, 1), (2, 0), (1, 2)), 0, longer), False)


class WrongArguments(unittest.TestCase):
    PIECES = (None, True, False, -1, 1, LONG, -LONG, LONGEST, "0", (0,), [0], {}, SQUARE)
    TURNINGS = (*[value for value in GRAPHLIKE], TURNS[:-1], TURNS + TURNS[:1], list(TURNS), ((0, 1), (0, 2), (1,)), ((0, 1), (0, 2), (1, 1)),
                ((0, True), (0, 2), (1, 2)), ((0, 1), (0, 2), [1, 2]), ((0, 1), (0, 2), (1, LONG)), ((0, 1), (1, 2), (0, 2)), LINES)

    def test_wrong_arguments(self):
        book = {0: (InvalidBook, NO_BOOK)}
        growth = {**book, 1: (InvalidNumber, self.PIECES)}
        turned = {**book, 1: (InvalidTurning, self.TURNINGS), 2: (InvalidNumber, self.PIECES)}
        rows = {**turned, 3: (InvalidOperation, (*[value for value in NOTHING if value not in ((), (0,))], (0, 0), (2,), [0], (3,),
                                                 (0, 1, 2), (True,), (0, LONG)))}
        steps = {**book, 1: (InvalidOperation, (*NOTHING, UNDONE[:-1], UNDONE * 3, list(UNDONE), (*UNDONE, None), UNDONE[0],
                                                (("put", 0, 0, (1, 0)), ("swap", 0, 0), *UNDONE[1:])))}
        for call, good, bad in (
                (is_growth, (TRIANGLE, 0, None), growth), (row_by, (TRIANGLE, TURNS, 0, (0,)), rows),
                (left_of, ((0, 0),), {0: (InvalidRow, (*[value for value in NOTHING if value not in ((), (0,), (0, 1), (2, 1), (2,))], (24,),
                                                       (0,) * 201, [0], (True,), (-1,), (0, LONG), "00"))}),
                (undoing_by, (TRIANGLE, TURNS, 0), turned), (is_undoing_by, (TRIANGLE, TURNS, 0, None), turned),
                (turning_by, (TRIANGLE, UNDONE), steps)):
            if call is left_of:
                for value in bad[0][1]:
                    if not (type(value) is tuple and all(type(e) is int and 0 <= e < 24 for e in value) and len(value) < 201):
                        caught(InvalidRow, left_of, value)
            else:
                check_errors(call, good, bad)

    def test_books_that_are_not_paired(self):
        for book in (CHAIN, Book(1, (((0,), 1),)), Book(3, (((0, 1, 2), 1), ((0, 1), 0)))):
            # Neither the turning nor a growth is looked at; a piece is.
            for turning in (None, TURNS, LONGEST, ()):
                for more in ((), ((),), (None,)):
                    call = {0: undoing_by, 1: row_by}[len(more)]
                    self.assertEqual(caught(Refused, call, book, turning, 0, *more).reason, ("pairs",))
                    for piece in (1, True, None, -1, LONG):
                        self.assertIs(caught(InvalidNumber, call, book, turning, piece, *more).given, piece)
                self.assertEqual(caught(Refused, is_undoing_by, book, turning, 0, None).reason, ("pairs",))
                self.assertEqual(caught(InvalidNumber, is_undoing_by, book, turning, 7, None).given, 7)
            self.assertEqual(caught(Refused, is_growth, book, 0, ()).reason, ("pairs",))
            self.assertEqual(caught(InvalidNumber, is_growth, book, 1, ()).given, 1)
            caught(InvalidOperation, turning_by, book, None)
            caught(InvalidOperation, turning_by, book, UNDONE)
        # An undoing of a paired piece of a book that is not paired; one of a piece that is not.
        loose = beside(TRIANGLE, Book(1, (((0,), 0),)))
        self.assertEqual(caught(Refused, turning_by, loose, UNDONE).reason, ("pairs",))
        caught(InvalidOperation, turning_by, loose, UNDONE[:-1])
        four = Book(1, (((0,), 1), ((0,), 0), ((0,), 0), ((0,), 0)))
        steps = (*[("put", 0, at, (0,)) for at in range(4)], ("cancel", 0), ("cancel", 0))
        self.assertTrue(own_is_undoing(four, steps))
        caught(InvalidOperation, turning_by, four, steps)

    def test_what_comes_then_is_behind_and_in_its_sequence(self):
        even = bent(SQUARE, 0)
        self.assertEqual(caught(Refused, undoing_by, even, LINES, 0).reason, ("even",))
        caught(InvalidTurning, undoing_by, even, LINES[1:], 0)
        caught(InvalidNumber, undoing_by, even, LINES, 1)
        caught(InvalidTurning, undoing_by, even, LINES[1:], 1)
        self.assertEqual(caught(Refused, undoing_by, BOTH, (*LINES, (9, 10), (9, 11), (10, 11)), 0).reason, ("handles", 1))
        self.assertTrue(own_is_undoing(BOTH, undoing_by(BOTH, (*LINES, (9, 10), (9, 11), (10, 11)), 1)))

    def test_nothing_is_changed_and_equal_calls_return_equal_results(self):
        for book, turning in DRAWN[:6]:
            self.assertEqual(undoing_by(book, turning, 0), undoing_by(book, turning, 0))
        self.assertTrue(fits(FOUR) and own_walk_steps(TRIANGLE, (), UNDONE) == ())
        self.assertEqual(even_book(CHANCE, 4, 5).many > 0, PENTAGRAM.many == 10)


if __name__ == "__main__":
    unittest.main()
