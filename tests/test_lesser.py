"""Promises [16.1] to [16.6], and the main statement [0.20]: lesser books, down to squares and pentagrams and up again."""

import unittest
from itertools import combinations, product
from random import Random
from time import perf_counter

from askedapart.errors import InvalidBook, InvalidOperation, InvalidOperator, Refused, TooMany
from askedapart.main.answers import kinds
from askedapart.main.lesser import (book_behind, core_kind, core_or_turning, is_core_or_turning, is_least, led_up, lesser, stays)
from askedapart.main.lifts import few_operators
from askedapart.net.graphs import Graph
from askedapart.net.plane import is_planar, turning_or_bar
from askedapart.say.books import Book, beside, is_paired, pieces, turned
from askedapart.sign.answers import operators_or_bar
from book_samples import (BOTH, barred_book, bent, drawn_longer, even_book, mixed_up, odd_bits, paired_of, plain_graph, planar_book)
from graph_samples import CUBE_BAR, CUBIC, FIVE, LADDER, PETERSEN, check_errors, glued, longer, own_handles, own_pieces, renamed
from operator_samples import LETTERS, TEN, negated, own_are_right, own_times, random_operator
from samples import CHAIN, LARGE, LONG, LONGEST, NOTHING, PENTAGRAM, SQUARE, TRIANGLE, caught, random_paired

CHANCE = Random(16)
LONGER = Book(10, (((0, 9), 0), ((1, 2, 9), 0), *SQUARE.sayings[1:]))
NO_BOOK = tuple(value for value in NOTHING if not isinstance(value, Book))
BARRED = [barred_book(CHANCE, drawn=2 + k % 4, more=k % 4, further=k % 5) for k in range(30)]
BARRED += [drawn_longer(CHANCE, PENTAGRAM, 6), mixed_up(CHANCE, drawn_longer(CHANCE, SQUARE, 10)), drawn_longer(CHANCE, PENTAGRAM, 11),
           paired_of(LADDER, odd_bits(CHANCE, 16)), paired_of(PETERSEN, odd_bits(CHANCE, 10)), SQUARE, PENTAGRAM, LONGER]
PLANAR = [planar_book(CHANCE, 10, 18)[0] for _ in range(25)] + [TRIANGLE, drawn_longer(CHANCE, TRIANGLE, 12)]
PAIRED = [random_paired(CHANCE, 7, 12) for _ in range(60)] + [random_paired(CHANCE, 4, 16) for _ in range(30)]
PAIRED += [random_paired(CHANCE, 3, 4) for _ in range(60)] + [BOTH, LARGE, beside(TRIANGLE, SQUARE), even_book(CHANCE, 6, 9)]
PAIRED += [beside(Book(2, (((0, 1), bit), ((0, 1), bit))), other) for bit in (0, 1) for other in (TRIANGLE, SQUARE, PENTAGRAM)]
NO_STEPS = (*[value for value in NOTHING], ("out",), ("out", 0), ("out", 0, 2), ("out", 0, True), ("out", True, 0), ("out", -1, 0),
            ("out", LONG, 0), ("out", 0, None), ("out", 0, 0, 0), ["out", 0, 0], ("join",), ("join", 0, 0), ("join", True), ("join", -1),
            ("join", LONGEST), ("join", None), ["join", 0], ("join", (0,)), ("what", 0), ("OUT", 0, 0), (["join"], 0), (("join", 0, 0),))


def own_lesser(book, step):
    """By the words of [16.1]: the pair of the book, or the reason of the refusal, and of the unknowns that stay."""
    word, unknown, *bit = step
    low, high = [s for s, (members, _) in enumerate(book.sayings) if unknown in members]
    rows = {s: (set(members), told) for s, (members, told) in enumerate(book.sayings)}
    if word == "out":
        for s in (low, high):
            rows[s] = (rows[s][0] - {unknown}, (rows[s][1] + bit[0]) % 2)
    else:
        rows[low] = (rows[low][0] ^ rows[high][0], (rows[low][1] + rows[high][1]) % 2)
        del rows[high]
    left = sorted(set().union(*[members for members, _ in rows.values()]))
    wrong = [s for s in sorted(rows) if rows[s] == (set(), 1)]
    if wrong:
        return ("false", wrong[0]), left
    if not left:
        return ("nothing",), left
    if any(len(members) > 8 for members, _ in rows.values()):
        return "long", left
    kept = [(tuple(sorted(left.index(e) for e in rows[s][0])), rows[s][1]) for s in sorted(rows) if rows[s][0]]
    return Book(len(left), tuple(kept)), left


def own_up(book, step, operators):
    """By the words of [16.3]."""
    word, unknown, *bit = step
    _, left = own_lesser(book, step)
    idle = "I" * (len(operators[0]) - 1)
    found = ["+" + idle] * book.many
    for e, operator in zip(left, operators):
        found[e] = operator
    if word == "out":
        found[unknown] = "+-"[bit[0]] + idle
    else:
        members, told = [saying for saying in book.sayings if unknown in saying[0]][0]
        power, letters = own_times("+" + idle, *[found[e] for e in members if e in left])
        assert power % 2 == 0
        found[unknown] = "+-"[(power // 2 + told) % 2] + letters
    return tuple(found)


def all_steps(book):
    """All steps of a book."""
    return [step for e in range(book.many) for step in (("out", e, 0), ("out", e, 1), ("join", e))]


def some_steps(book, most):
    """Whatever steps that can be done, and all books along them."""
    steps, books = [], [book]
    for _ in range(most):
        free = [step for step in all_steps(books[-1]) if isinstance(own_lesser(books[-1], step)[0], Book)]
        if not free:
            break
        steps.append(CHANCE.choice(free))
        books.append(own_lesser(books[-1], steps[-1])[0])
    return tuple(steps), books


def own_core(book):
    """"square", "pentagram" or None, knots being renamed in all ways."""
    if sum(bit for _, bit in book.sayings) % 2 == 0:
        return None
    graph = plain_graph(book)
    lines = sorted(graph.lines)
    if graph.many == 5 and lines == list(combinations(range(5), 2)):
        return "pentagram"
    if graph.many == 6 and len(lines) == 9:
        for ones in combinations(range(6), 3):
            others = [knot for knot in range(6) if knot not in ones]
            if lines == sorted(tuple(sorted(pair)) for pair in product(ones, others)):
                return "square"
    return None


def own_leads(book, steps):
    """Whether steps that are told well lead to a square or a pentagram."""
    for step in steps:
        if step[1] >= book.many:
            return False
        book, _ = own_lesser(book, step)
        if not isinstance(book, Book):
            return False
    return own_core(book) is not None


class Examples(unittest.TestCase):
    def test_examples(self):
        self.assertEqual([book_behind(LONGER, (("join", 9),)) == SQUARE, led_up(LONGER, (("join", 9),), LETTERS)[9], core_kind(LONGER)],
                         [True, "+XI", None])
        self.assertEqual([lesser(TRIANGLE, ("out", 0, 1)).sayings, lesser(TRIANGLE, ("join", 0)).sayings, core_or_turning(TRIANGLE)[0]],
                         [(((0,), 1), ((1,), 1), ((0, 1), 1)), (((0, 1), 0), ((0, 1), 1)), "drawn"])
        self.assertEqual(caught(Refused, lesser, Book(1, (((0,), 0), ((0,), 1))), ("out", 0, 0)).reason, ("false", 1))


class Steps(unittest.TestCase):
    def test_all_steps(self):
        seen = {}
        for book in PAIRED + BARRED + PLANAR:
            for step in all_steps(book):
                found, left = own_lesser(book, step)
                self.assertEqual(stays(book, step), tuple(left))
                if isinstance(found, Book):
                    self.assertEqual(lesser(book, step), found)
                    key = "fell" if len(found.sayings) < len(book.sayings) - (step[0] == "join") else "stayed"
                elif found == "long":
                    self.assertEqual(caught(TooMany, lesser, book, step).limit, 8)
                    key = found
                else:
                    self.assertEqual(caught(Refused, lesser, book, step).reason, found)
                    key = found[0]
                seen[key, step[0]] = seen.get((key, step[0]), 0) + 1
        for key in (("fell", "out"), ("fell", "join"), ("stayed", "out"), ("stayed", "join"), ("false", "out"), ("false", "join"),
                    ("nothing", "out"), ("nothing", "join"), ("long", "join")):
            self.assertGreater(seen.get(key, 0), 2, key)

    def test_told_steps(self):
        two = Book(3, (((0, 1, 2), 1), ((0, 1), 1), ((2,), 0)))
        self.assertEqual(lesser(two, ("join", 0)), Book(1, (((0,), 0), ((0,), 0))))
        self.assertEqual(stays(two, ("join", 0)), (2,))
        self.assertEqual(lesser(two, ("out", 2, 0)), Book(2, (((0, 1), 1), ((0, 1), 1))))
        self.assertEqual(caught(Refused, lesser, two, ("out", 2, 1)).reason, ("false", 2))
        self.assertEqual(stays(two, ("out", 2, 1)), (0, 1))
        pairs = Book(2, (((0,), 1), ((0, 1), 0), ((1,), 1)))
        self.assertEqual(lesser(pairs, ("out", 0, 1)), Book(1, (((0,), 1), ((0,), 1))))
        self.assertEqual(caught(Refused, lesser, pairs, ("out", 1, 0)).reason, ("false", 2))
        # The joined saying stands at the place of the lesser one.
        self.assertEqual(caught(Refused, lesser, Book(2, (((0,), 0), ((1,), 0), ((1,), 1), ((0,), 0))), ("join", 1)).reason, ("false", 1))
        self.assertEqual(caught(Refused, lesser, Book(1, (((0,), 1), ((0,), 1))), ("join", 0)).reason, ("nothing",))
        self.assertEqual(caught(Refused, lesser, Book(1, (((0,), 1), ((0,), 1))), ("out", 0, 1)).reason, ("nothing",))
        self.assertEqual(caught(Refused, lesser, Book(1, (((0,), 1), ((0,), 1))), ("out", 0, 0)).reason, ("false", 0))
        self.assertEqual(stays(Book(1, (((0,), 1), ((0,), 1))), ("join", 0)), ())

    def test_more_than_eight(self):
        # Two sayings of eight with one common unknown, others with one unknown each.
        ends = [(0, 1)] + [(0, k) for k in range(2, 9)] + [(1, k) for k in range(9, 16)]
        wide = paired_of(graph_by(ends), (1, *(0,) * 15))
        self.assertEqual(caught(TooMany, lesser, wide, ("join", 0)).limit, 8)
        self.assertEqual(len(stays(wide, ("join", 0))), 14)
        self.assertEqual(len(lesser(wide, ("join", 1)).sayings[0][0]), 7)
        # Nine come to eight if one of them stands in both.
        less = paired_of(graph_by([(0, 1), (0, 1)] + [(0, k) for k in range(2, 6)] + [(1, k) for k in range(6, 10)]), (1, *(0,) * 9))
        self.assertEqual([len(members) for members, _ in lesser(less, ("join", 0)).sayings][0], 8)

    def test_what_is_kept(self):
        for book in PAIRED + PLANAR[:10] + BARRED[:10]:
            steps, books = some_steps(book, 6)
            for one, other in zip(books, books[1:]):
                self.assertTrue(is_paired(other))
                self.assertEqual(*[sum(bit for _, bit in some.sayings) % 2 for some in (one, other)])
                self.assertTrue(is_planar(plain_graph(other)) or not is_planar(plain_graph(one)))
            self.assertEqual(book_behind(book, steps), books[-1])

    def test_steps_in_their_turn(self):
        self.assertEqual(book_behind(SQUARE, ()), SQUARE)
        for book in PAIRED[:40]:
            steps, books = some_steps(book, 5)
            for worse in (("out", books[-1].many, 0), ("join", books[-1].many), ("join", -1), None, ["join", 0]):
                caught(InvalidOperation, book_behind, book, (*steps, worse))
            for step in all_steps(books[-1]):
                if not isinstance(own_lesser(books[-1], step)[0], Book):
                    caught(InvalidOperation, book_behind, book, (*steps, step))
                    caught(InvalidOperation, led_up, book, (*steps, step), ("+I",))


def graph_by(ends):
    """The graph of these lines."""
    return Graph(max(high for _, high in ends) + 1, tuple(ends))


class Up(unittest.TestCase):
    def test_one_step(self):
        seen = set()
        for book in PAIRED + BARRED[:12]:
            for step in all_steps(book)[:24]:
                found, _ = own_lesser(book, step)
                if not isinstance(found, Book) or operators_or_bar(found)[0] == "barred":
                    continue
                right = operators_or_bar(found)[1]
                up = led_up(book, (step,), right)
                self.assertEqual(up, own_up(book, step, right))
                self.assertTrue(own_are_right(book, up))
                seen.add((step[0], len(up[0]) > 2))
        self.assertEqual(seen, {("out", True), ("out", False), ("join", True), ("join", False)})

    def test_several_steps(self):
        many = 0
        for book in BARRED + PAIRED:
            for _ in range(4):
                steps, books = some_steps(book, CHANCE.randint(2, 9))
                told = operators_or_bar(books[-1])
                if told[0] == "barred":
                    continue
                many += 1
                found = told[1]
                for one, step in reversed(list(zip(books, steps))):
                    found = own_up(one, step, found)
                self.assertEqual(led_up(book, steps, told[1]), found)
                self.assertTrue(own_are_right(book, found))
        self.assertGreater(many, 100)

    def test_from_the_square_and_the_pentagram(self):
        for book in BARRED:
            word, steps = core_or_turning(book)
            core = book_behind(book, steps)
            # Turned, each square is the told one but for the names; its operators come from the other way.
            up = led_up(book, steps, few_operators(core))
            self.assertTrue(own_are_right(book, up))
            self.assertEqual(len(up[0]) - 1, {"square": 2, "pentagram": 3}[core_kind(core)])
        self.assertEqual(led_up(SQUARE, (), LETTERS), LETTERS)
        self.assertEqual(led_up(PENTAGRAM, (), TEN), TEN)

    def test_of_twelve_letters(self):
        longer_ones = tuple(operator + "I" * 10 for operator in LETTERS)
        self.assertEqual(led_up(LONGER, (("join", 9),), longer_ones), own_up(LONGER, ("join", 9), longer_ones))


class Core(unittest.TestCase):
    def test_steps_or_a_turning(self):
        for book in BARRED:
            word, steps = core_or_turning(book)
            self.assertEqual(word, "core")
            self.assertTrue(own_leads(book, steps))
            self.assertIn(core_kind(book_behind(book, steps)), ("square", "pentagram"))
            self.assertIs(is_core_or_turning(book, ("core", steps)), True)
            for turning in (tuple(members for members, _ in book.sayings), None):
                self.assertIs(is_core_or_turning(book, ("drawn", turning)), False)
        for book in PLANAR:
            word, turning = core_or_turning(book)
            self.assertEqual(word, "drawn")
            self.assertFalse(any(own_handles(plain_graph(book), turning)))
            self.assertIs(is_core_or_turning(book, ("drawn", turning)), True)
            self.assertIs(is_core_or_turning(book, ("core", ())), False)

    def test_no_steps_from_what_is_planar(self):
        for book in PLANAR:
            for _ in range(10):
                steps, books = some_steps(book, 8)
                self.assertIs(is_core_or_turning(book, ("core", steps)), False)
                self.assertFalse(any(own_core(one) for one in books))

    def test_steps_that_the_package_would_not_tell(self):
        judged = []
        for book in BARRED:
            for _ in range(6):
                steps, books = some_steps(book, 20)
                for size in range(len(steps) + 1):
                    wanted = own_core(books[size]) is not None
                    judged.append(wanted)
                    self.assertIs(is_core_or_turning(book, ("core", steps[:size])), wanted)
            _, steps = core_or_turning(book)
            for at, step in enumerate(steps):
                values = [steps[:at] + steps[at + 1:], (*steps[:at], ("join", step[1]), *steps[at + 1:]), steps[:at],
                          (*steps[:at], ("out", step[1], 1), *steps[at + 1:]), (*steps[:at], (step[0], step[1] + 1, *step[2:]), *steps[at + 1:])]
                for value in values:
                    wanted = own_leads(book, value)
                    judged.append(wanted)
                    self.assertIs(is_core_or_turning(book, ("core", value)), wanted)
                for worse in (None, list(step), step[:-1], (*step, 0), ("join", True), ("out", step[1], True), LONGEST):
                    self.assertIs(is_core_or_turning(book, ("core", (*steps[:at], worse, *steps[at + 1:]))), False)
            self.assertIs(is_core_or_turning(book, ("core", list(steps))), False)
            # What comes behind a square must be done, too, and lead to another one.
            for worse in (("join", 0), ("join", 99), ("out", 0, 2), None, ()):
                self.assertIs(is_core_or_turning(book, ("core", (*steps, worse))), False)
        self.assertGreater(judged.count(True), 40)
        self.assertGreater(judged.count(False), 40)

    def test_many_turnings(self):
        judged = set()
        for book in PLANAR + BARRED[:5]:
            graph = plain_graph(book)
            for _ in range(20):
                turning = tuple(tuple(CHANCE.sample(members, len(members))) for members, _ in book.sayings)
                wanted = not any(own_handles(graph, turning))
                judged.add(wanted)
                self.assertIs(is_core_or_turning(book, ("drawn", turning)), wanted)
                self.assertIs(is_core_or_turning(book, ("core", turning)), False)
        self.assertEqual(judged, {True, False})

    def test_the_judged_value_is_never_an_error(self):
        for value in (*NOTHING, *[("core", some) for some in NO_STEPS if some != ()], *[("core", (some,)) for some in NO_STEPS], ("drawn", None),
                      ("core", "join"), ("core", (("join", 0),) * 100000), ("core",), ("core", (), ()), ["core", ()], ("what", ())):
            for book in (TRIANGLE, LONGER):
                self.assertIs(is_core_or_turning(book, value), False)
        self.assertIs(is_core_or_turning(SQUARE, ("core", ())), True)

    def test_kinds_of_cores(self):
        for graph, book, word in ((CUBIC, SQUARE, "square"), (FIVE, PENTAGRAM, "pentagram")):
            for _ in range(12):
                odd = paired_of(renamed(CHANCE, graph), odd_bits(CHANCE, graph.many))
                self.assertEqual((core_kind(odd), own_core(odd)), (word, word))
                self.assertIsNone(core_kind(bent(odd, CHANCE.randrange(graph.many))))
            self.assertIsNone(core_kind(beside(book, bent(TRIANGLE, 0))))
            unknowns = tuple(sorted(CHANCE.sample(range(book.many), 4)))
            self.assertEqual(core_kind(turned(book, unknowns)), word)
        for book in PAIRED + BARRED + PLANAR + [LONGER, bent(SQUARE, 0)]:
            self.assertEqual(core_kind(book), own_core(book))
        # Six sayings of three unknowns each, but two triangles with lines between them; a line twice.
        prism = ((0, 1), (0, 2), (1, 2), (3, 4), (3, 5), (4, 5), (0, 3), (1, 4), (2, 5))
        double = ((0, 3), (0, 3), (0, 4), (1, 3), (1, 4), (1, 5), (2, 4), (2, 5), (2, 5))
        for ends in (prism, double):
            book = paired_of(graph_by(ends), (1, 0, 0, 0, 0, 0))
            self.assertIsNone(core_kind(book))
            self.assertEqual(core_or_turning(book)[0], "drawn" if is_planar(graph_by(ends)) else "core")

    def test_wider_ones(self):
        # Knots of the bars with clumps as large as eight lines at a knot let them be.
        for graph in (CUBIC, FIVE):
            for _ in range(6):
                more = graph
                for _ in range(5):
                    more = longer(CHANCE, more)
                more = glued(more, FIVE if graph is CUBIC else CUBIC, [0])
                if more.many <= 16 and len(more.lines) <= 24 and all(sum(k in ends for ends in more.lines) <= 8 for k in range(more.many)):
                    book = paired_of(renamed(CHANCE, more), odd_bits(CHANCE, more.many))
                    self.assertTrue(own_leads(book, core_or_turning(book)[1]))

    def test_speed(self):
        for book in (paired_of(LADDER, odd_bits(CHANCE, 16)), drawn_longer(CHANCE, SQUARE, 10), LARGE, drawn_longer(CHANCE, PENTAGRAM, 11)):
            begun = perf_counter()
            self.assertIs(is_core_or_turning(book, core_or_turning(book)), True)
            self.assertLess(perf_counter() - begun, 2)


class Least(unittest.TestCase):
    def has_operators(self, book):
        """Whether operators are right for a paired book, by [0.17]."""
        return "planar" not in kinds(book)

    def test_least(self):
        seen = []
        for book in BARRED + PLANAR[:12]:
            behind = [own_lesser(book, step)[0] for step in all_steps(book)]
            wanted = self.has_operators(book) and not any(isinstance(one, Book) and self.has_operators(one) for one in behind)
            seen.append(wanted)
            self.assertIs(is_least(book), wanted)
            self.assertEqual(core_kind(book) is not None, wanted)
        self.assertEqual(set(seen), {True, False})
        for graph in (CUBIC, FIVE):
            self.assertIs(is_least(paired_of(renamed(CHANCE, graph), odd_bits(CHANCE, graph.many))), True)


class NoneOfTheseIsTrue(unittest.TestCase):
    def test_right_operators_but_none_behind_a_step(self):
        for step in all_steps(SQUARE):
            self.assertEqual(operators_or_bar(lesser(SQUARE, step))[0], "barred")
        self.assertEqual(operators_or_bar(SQUARE)[0], "operators")

    def test_six_sayings_of_three_unknowns_that_lead_to_no_square(self):
        prism = ((0, 1), (0, 2), (1, 2), (3, 4), (3, 5), (4, 5), (0, 3), (1, 4), (2, 5))
        book = paired_of(graph_by(prism), (1, 0, 0, 0, 0, 0))
        self.assertEqual({len(members) for members, _ in book.sayings}, {3})
        self.assertEqual(core_or_turning(book)[0], "drawn")


class WrongArguments(unittest.TestCase):
    OPERATORS = (*NOTHING, LETTERS[:-1], LETTERS + LETTERS[:1], list(LETTERS), LETTERS[0], (*LETTERS[:-1], "+X"), (*LETTERS[:-1], None),
                 ("+" + "I" * 13,) * 9)

    def test_wrong_arguments(self):
        book = {0: (InvalidBook, NO_BOOK)}
        step = {**book, 1: (InvalidOperation, (*NO_STEPS, ("out", 9, 0), ("join", 9)))}
        bad = tuple(value for value in NO_STEPS if value != ())
        steps = {**book, 1: (InvalidOperation, (*bad, *[(value,) for value in NO_STEPS], [("join", 0)], (("join", 9),), "join"))}
        up = {**steps, 2: (InvalidOperator, self.OPERATORS)}
        for call, good, wrong in (
                (lesser, (SQUARE, ("join", 0)), step), (stays, (SQUARE, ("out", 0, 1)), step), (book_behind, (SQUARE, (("join", 0),)), steps),
                (led_up, (LONGER, (("join", 9),), LETTERS), {**up, 1: (InvalidOperation, (*bad, (("join", 10),), [("join", 9)]))}),
                (core_kind, (SQUARE,), book), (is_least, (SQUARE,), book), (core_or_turning, (SQUARE,), book),
                (is_core_or_turning, (SQUARE, None), book)):
            check_errors(call, good, wrong)

    def test_what_comes_then_in_its_sequence(self):
        once = Book(1, (((0,), 1),))
        for book in (CHAIN, once, beside(CHAIN, TRIANGLE), Book(2, (((0, 1), 1), ((0, 1), 1), ((0, 1), 0)))):
            for call, more in ((lesser, (("join", 0),)), (lesser, (("out", 0, 1),)), (stays, (("join", 0),)), (book_behind, ((),)),
                               (led_up, ((), ("+X",) * book.many)), (core_kind, ()), (is_least, ()), (core_or_turning, ()),
                               (is_core_or_turning, (("core", ()),))):
                self.assertEqual(caught(Refused, call, book, *more).reason, ("pairs",))
            for call in (lesser, stays):
                caught(InvalidOperation, call, book, ("join", book.many))
            caught(InvalidOperation, book_behind, book, None)
            caught(InvalidOperator, led_up, book, (), ("+X",) * (book.many + 1))
            # In its turn each step of a book that is not paired raises an error.
            caught(InvalidOperation, book_behind, book, (("join", 0),))
        for book, reason in ((BOTH, "pieces"), (beside(bent(SQUARE, 0), TRIANGLE), "pieces"), (bent(SQUARE, 0), "even"), (bent(TRIANGLE, 0), "even")):
            for call, more in ((is_least, ()), (core_or_turning, ()), (is_core_or_turning, (("core", ()),))):
                self.assertEqual(caught(Refused, call, book, *more).reason, (reason,))
            self.assertIsNone(core_kind(book))

    def test_operators_that_are_not_right(self):
        for at in range(9):
            caught(InvalidOperation, led_up, LONGER, (("join", 9),), (*LETTERS[:at], negated(LETTERS[at]), *LETTERS[at + 1:]))
        for _ in range(20):
            value = tuple(random_operator(CHANCE, 2) for _ in range(9))
            if not own_are_right(SQUARE, value):
                caught(InvalidOperation, led_up, SQUARE, (), value)
        # The steps come ahead of the operators.
        caught(InvalidOperation, led_up, SQUARE, (("join", 9),), None)
        caught(InvalidOperator, led_up, SQUARE, (("join", 0),), LETTERS)

    def test_nothing_is_changed_and_equal_calls_return_equal_results(self):
        for book in BARRED[:8] + PLANAR[:8]:
            sayings = book.sayings
            self.assertEqual(core_or_turning(book), core_or_turning(book))
            lesser(book, ("out", 0, 0)) if isinstance(own_lesser(book, ("out", 0, 0))[0], Book) else None
            self.assertEqual((book.sayings, len(pieces(book))), (sayings, len(own_pieces(plain_graph(book)))))
        self.assertEqual(turning_or_bar(CUBIC), CUBE_BAR)


if __name__ == "__main__":
    unittest.main()
