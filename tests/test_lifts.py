"""Promises [14.1] to [14.6], and the main statement [0.19]: operators led along ways, sheets, fewest qubits."""

import unittest
from itertools import combinations
from random import Random
from time import perf_counter

from askedapart.errors import InvalidBook, InvalidGraph, InvalidOperation, Refused
from askedapart.main.lifts import NINE, TEN as TOLD_TEN, few_operators, fewest_qubits, is_lifted, is_six_or_parting, lifted
from askedapart.main.lifts import six_or_parting
from askedapart.net.graphs import Graph
from askedapart.net.plane import is_planar, turning_or_bar
from askedapart.say.books import Book, beside
from askedapart.sign.answers import are_right_operators
from book_samples import (BOTH, barred_book, bent, drawn_longer, fits, is_whole, mixed_up, odd_bits, paired_of, plain_graph,
                          planar_book)
from graph_samples import (BARE, BARES, BUNDLE, CUBE_BAR, CUBIC, FIVE, FIVE_BAR, FOUR, GRAPHLIKE, GRID, KITE, LADDER, NAMED,
                           NO_GRAPH, OCTAHEDRON, PETERSEN, TWO_RINGS, check_errors, complete, glued, grown_drawing, longer,
                           own_bars, own_handles, own_is_bar, renamed, ring, small_graphs, with_hidden_bar)
from operator_samples import LETTERS, TEN, negated, own_are_right, own_commute
from samples import CHAIN, LONG, LONGEST, NOTHING, PENTAGRAM, SQUARE, TRIANGLE, caught, deep
from test_right_operators import own_changes
from test_tables import own_rank

CHANCE = Random(14)
BARRED = [barred_book(CHANCE, drawn=2 + k % 4, more=k % 4, further=k % 5) for k in range(40)]
BARRED += [SQUARE, PENTAGRAM, drawn_longer(CHANCE, PENTAGRAM, 6), mixed_up(CHANCE, drawn_longer(CHANCE, SQUARE, 10))]
HIDDEN = [with_hidden_bar(CHANCE, ("five", "six")[k % 2], drawn=2 + k % 4, more=k % 5, further=k % 6) for k in range(50)]
NO_BOOK = tuple(value for value in NOTHING if not isinstance(value, Book))


def sheet_of(graph):
    """The pairs of knots that some line joins."""
    return tuple(sorted(set(graph.lines)))


def without_pair(graph, pair):
    """The graph without one line between these knots."""
    at = graph.lines.index(pair)
    return Graph(graph.many, graph.lines[:at] + graph.lines[at + 1:])


def random_renamed(graph):
    """The graph with other names."""
    return renamed(CHANCE, graph)


def glued_of_fives():
    """Graphs without a bar of six: fives, fours and rings, glued at none, one or two knots."""
    parts = (FIVE, FOUR, ring(3), ring(4), Graph(2, ((0, 1),)), Graph(2, ((0, 1),) * 3), OCTAHEDRON)
    found = [FIVE, Graph(5, FIVE.lines * 2), longer(CHANCE, FIVE), longer(CHANCE, longer(CHANCE, FIVE))]
    while len(found) < 50:
        graph = FIVE if len(found) % 3 else CHANCE.choice(parts)
        for _ in range(CHANCE.randint(1, 3)):
            part = CHANCE.choice(parts)
            size = CHANCE.randint(0, 2)
            # At two knots that a line joins in both; this line may then be left out.
            knots = list(CHANCE.choice(graph.lines)) if size == 2 else [CHANCE.randrange(graph.many)][:size]
            if (0, 1) not in part.lines or graph.many + part.many - size > 16 or len(graph.lines) + len(part.lines) > 24:
                continue
            more = glued(graph, part, knots)
            if size == 2 and CHANCE.randrange(2):
                more = without_pair(more, tuple(sorted(knots)))
            graph = more
        found.append(random_renamed(graph))
    return found


GLUED = glued_of_fives()


def own_knots(sheet):
    """The knots of a sheet."""
    return sorted({knot for pair in sheet for knot in pair})


def own_draw(many, sheet, turns):
    """Whether turns draw a sheet: each knot once, its neighbours each once, and no handles."""
    if [knot for knot, _ in turns] != own_knots(sheet):
        return False
    for knot, fars in turns:
        if sorted(fars) != sorted(sum(pair) - knot for pair in sheet if knot in pair):
            return False
    graph = Graph(many, sheet)
    told = dict(turns)
    turning = tuple(tuple(sheet.index(tuple(sorted((knot, far)))) for far in told.get(knot, ())) for knot in range(many))
    return not any(own_handles(graph, turning))


def own_is_parting(graph, value):
    """By the words of [14.3], each step by itself, for steps of the kinds told."""
    free = []
    for word, sheet, *more in value:
        if list(sheet) != sorted(set(sheet)) or not all(0 <= a < b < graph.many for a, b in sheet):
            return False
        if word == "drawn" and not own_draw(graph.many, sheet, more[0]):
            return False
        if word == "five" and (len(own_knots(sheet)), len(sheet)) != (5, 10):
            return False
        if word == "split":
            knots = more[0]
            if len(free) < 2 or len(knots) > 2 or list(knots) != sorted(set(knots)) or not set(knots) <= set(own_knots(sheet)):
                return False
            one, other = free.pop(), free.pop()
            if max(len(one), len(other)) >= len(sheet) or not set(own_knots(one)) & set(own_knots(other)) <= set(knots):
                return False
            if len(knots) == 2 and not (knots in one and knots in other):
                return False
            rest = sorted(pair for pair in one + other if pair != knots)
            if rest != [pair for pair in sheet if pair != knots]:
                return False
        free.append(sheet)
    return free == [sheet_of(graph)]


def some_parting(graph, sheet=None):
    """A parting that goes down to single circles and pairs, in whatever sequence of the parts, or None."""
    sheet = sheet_of(graph) if sheet is None else sheet
    if (len(own_knots(sheet)), len(sheet)) == (5, 10):
        return (("five", sheet),)
    cuts = [cut for size in (0, 1, 2) for cut in combinations(own_knots(sheet), size)]
    for cut in CHANCE.sample(cuts, len(cuts)):
        inner = [pair for pair in sheet if pair != cut]
        groups = []
        for pair in inner:
            hang = [group for group in groups if any((set(pair) & set(other)) - set(cut) for other in group)]
            groups = [group for group in groups if group not in hang] + [[pair, *[other for group in hang for other in group]]]
        if len(groups) < 2:
            continue
        CHANCE.shuffle(groups)
        at = CHANCE.randint(1, len(groups) - 1)
        both = [cut] if len(cut) == 2 else []
        parts = [tuple(sorted([pair for group in some for pair in group] + both)) for some in (groups[:at], groups[at:])]
        if max(len(part) for part in parts) >= len(sheet) or (len(cut) == 2 and not is_planar(Graph(graph.many, sheet)) and not all(
                set(cut) <= set(own_knots([pair for pair in part if pair != cut])) for part in parts)):
            continue
        found = [some_parting(graph, part) for part in parts]
        if None not in found:
            return (*found[0], *found[1], ("split", sheet, cut))
    drawn = turning_or_bar(Graph(graph.many, sheet))
    if drawn[0] != "drawn":
        return None
    turns = tuple((knot, tuple(sum(sheet[line]) - knot for line in drawn[1][knot])) for knot in own_knots(sheet))
    return (("drawn", sheet, turns),)


def own_has_six(graph):
    """Whether a small graph has a bar of six, all being gone through."""
    return any(bar[0] == "six" for bar in own_bars(graph))


class Examples(unittest.TestCase):
    def test_examples(self):
        self.assertEqual([fewest_qubits(SQUARE), fewest_qubits(PENTAGRAM), six_or_parting(FIVE)[1][0][0],
                          are_right_operators(SQUARE, few_operators(SQUARE))], [2, 3, "five", True])
        self.assertIs(is_six_or_parting(FIVE, ("parted", (("five", FIVE.lines),))), True)
        self.assertEqual(caught(Refused, fewest_qubits, TRIANGLE).reason, ("planar",))
        self.assertEqual((NINE, TOLD_TEN), (LETTERS, TEN))
        self.assertTrue(own_are_right(SQUARE, NINE) and own_are_right(PENTAGRAM, TOLD_TEN))


def own_is_lifted(book, bar, value):
    """By the words of [14.1] and the interface."""
    led = [line for way in bar[-1] for line in way]
    idle = "I" * (len(value[0]) - 1)
    return (own_are_right(book, value) and all(value[line][1:] == idle for line in range(book.many) if line not in led)
            and all(len({value[line][1:] for line in way}) == 1 for way in bar[-1]))


class Lifted(unittest.TestCase):
    def bars(self, book):
        """Some bars of the graph of a book."""
        graph = plain_graph(book)
        found = [turning_or_bar(graph)]
        six = six_or_parting(graph)
        return found + ([six] if six[0] == "six" else []) + (own_bars(graph)[:3] if graph.many <= 6 else [])

    def test_lifted(self):
        for book in BARRED:
            for bar in self.bars(book):
                found = lifted(book, bar)
                self.assertTrue(own_is_lifted(book, bar, found))
                self.assertIs(is_lifted(book, bar, found), True)
                self.assertIs(are_right_operators(book, found), True)

    def test_the_judge(self):
        judged = []
        for book in BARRED:
            for bar in self.bars(book):
                found = lifted(book, bar)
                wider = tuple(operator + "I" for operator in found)
                renamed_letters = tuple(operator[0] + operator[1:].replace("X", "A").replace("Z", "X").replace("A", "Z")
                                        for operator in found)
                way = CHANCE.choice(bar[-1])
                values = [wider, renamed_letters, tuple(operator[0] + operator[:0:-1] for operator in found)]
                values += [tuple(negated(operator) if e in way else operator for e, operator in enumerate(found))]
                for _ in range(6):
                    e = CHANCE.randrange(book.many)
                    for worse in (negated(found[e]), found[CHANCE.randrange(book.many)], found[e][0] + "I" * (len(found[e]) - 1)):
                        values.append((*found[:e], worse, *found[e + 1:]))
                for value in values:
                    wanted = own_is_lifted(book, bar, value)
                    judged.append(wanted)
                    self.assertIs(is_lifted(book, bar, value), wanted)
                for wrong in (list(found), found[:-1], (found,), None, found[0], found + found[:1]):
                    self.assertIs(is_lifted(book, bar, wrong), False)
        self.assertEqual(set(judged), {True, False})

    def test_right_but_not_led(self):
        # The unknown 9 is off the ways; X at one more qubit on a ring through it is right, but not led.
        wider = Book(10, (((0, 1, 2, 9), 0), ((3, 4, 5, 9), 0), *SQUARE.sayings[2:]))
        ringed = (0, 3, 9)
        value = tuple((LETTERS[e] if e < 9 else "+II") + ("X" if e in ringed else "I") for e in range(10))
        self.assertTrue(own_are_right(wider, value))
        self.assertIs(is_lifted(wider, CUBE_BAR, value), False)
        ringed = (0, 1, 3, 4)
        value = tuple((LETTERS[e] if e < 9 else "+II") + ("X" if e in ringed else "I") for e in range(10))
        self.assertTrue(own_are_right(wider, value))
        self.assertIs(is_lifted(wider, CUBE_BAR, value), True)

    def test_the_judged_value_is_never_an_error(self):
        for value in (*NOTHING, LETTERS[:-1], list(LETTERS), ("+X",) * 9, (1,) * 9, (None,) * 9, deep(LETTERS, 5, tuple)):
            self.assertIs(is_lifted(SQUARE, CUBE_BAR, value), False)
        self.assertIs(is_lifted(SQUARE, CUBE_BAR, LETTERS), True)


class SixOrParting(unittest.TestCase):
    def check(self, graph):
        """The word of what is told, which is right by its meaning."""
        found = six_or_parting(graph)
        if found[0] == "six":
            self.assertTrue(own_is_bar(graph, found))
        else:
            self.assertEqual((found[0], len(found)), ("parted", 2))
            self.assertTrue(own_is_parting(graph, found[1]), (graph.lines, found))
        self.assertIs(is_six_or_parting(graph, found), True)
        return found[0]

    def test_small_graphs_by_all_bars(self):
        kinds = set()
        for graph in [*small_graphs(60, seed=141, knots=7, lines=12), CUBIC, FIVE, complete(6), Graph(6, CUBIC.lines[1:] + ((0, 1),)),
                      without_pair(complete(6), (0, 1)), Graph(6, FIVE.lines + ((0, 5), (1, 5))), Graph(5, FIVE.lines + ((0, 1),))]:
            if len(graph.lines) <= 15 and graph.many <= 7:
                word = self.check(graph)
                kinds.add(word)
                self.assertEqual(word == "six", own_has_six(graph), graph.lines)
        self.assertEqual(kinds, {"six", "parted"})

    def test_hidden_bars(self):
        words = {"six": 0, "parted": 0}
        for graph in [*HIDDEN, PETERSEN, LADDER, *NAMED]:
            words[self.check(graph)] += 1
        self.assertGreater(min(words.values()), 8)
        self.assertEqual((self.check(PETERSEN), self.check(LADDER)), ("six", "six"))

    def test_graphs_glued_of_fives(self):
        steps = set()
        for graph in GLUED:
            self.assertEqual(self.check(graph), "parted")
            steps |= {(step[0], len(step[-1]) if step[0] == "split" else 0) for step in six_or_parting(graph)[1]}
        self.assertTrue({("five", 0), ("drawn", 0), ("split", 1), ("split", 2)} <= steps, steps)
        self.assertEqual(self.check(glued(FIVE, FIVE, [])), "parted")
        self.assertEqual(self.check(glued(FIVE, CUBIC, [0])), "six")
        self.assertEqual(self.check(glued(FIVE, CUBIC, [])), "six")

    def test_planar_graphs(self):
        for k in range(30):
            graph = grown_drawing(CHANCE, CHANCE.randint(1, 16), CHANCE.randint(0, 24))[0]
            self.assertEqual(self.check(graph), "parted")
        for graph in (BARE, BARES, BUNDLE, KITE, FOUR, OCTAHEDRON, TWO_RINGS, GRID):
            self.assertEqual(self.check(graph), "parted")
        self.assertEqual(six_or_parting(BARES), ("parted", (("drawn", (), ()),)))

    def test_several_lines_between_two_knots(self):
        for graph in (CUBIC, FIVE, longer(CHANCE, CUBIC)):
            more = Graph(graph.many, graph.lines + tuple(CHANCE.choice(graph.lines) for _ in range(6)))
            self.assertEqual(self.check(random_renamed(more)), "six" if graph is not FIVE else "parted")

    def test_partings_that_the_package_would_not_tell(self):
        many = 0
        for graph in [*GLUED, KITE, FOUR, GRID, TWO_RINGS, *[grown_drawing(CHANCE, 10, 14)[0] for _ in range(10)]]:
            value = some_parting(graph)
            if value is not None:
                self.assertTrue(own_is_parting(graph, value))
                self.assertIs(is_six_or_parting(graph, ("parted", value)), True)
                many += ("parted", value) != six_or_parting(graph)
        self.assertGreater(many, 30)

    def test_partings_bent_in_one_step(self):
        judged = []
        for graph in [*GLUED[:25], KITE, TWO_RINGS]:
            value = some_parting(graph) or six_or_parting(graph)[1]
            for at, step in enumerate(value):
                for worse in bent_steps(graph, step):
                    bend = (*value[:at], worse, *value[at + 1:])
                    wanted = own_is_parting(graph, bend)
                    judged.append(wanted)
                    self.assertIs(is_six_or_parting(graph, ("parted", bend)), wanted, (graph.lines, bend))
                for wrong in (value[:at] + value[at + 1:], value[:at] + (step,) + value[at:], value[:at]):
                    self.assertIs(is_six_or_parting(graph, ("parted", wrong)), own_is_parting(graph, wrong))
                for worse in (None, step[:-1], (*step, ()), list(step), (step[0], list(step[1]), *step[2:]), (step[1],), step[0],
                              ("what", *step[1:]), (step[0], *step[1:-1], list(step[-1])), (step[0], None, *step[2:])):
                    self.assertIs(is_six_or_parting(graph, ("parted", (*value[:at], worse, *value[at + 1:]))), False)
            for wrong in (list(value), (value,), value[::-1] if len(value) > 1 else None, ()):
                self.assertIs(is_six_or_parting(graph, ("parted", wrong)), False)
            self.assertIs(is_six_or_parting(graph, value), False)
        self.assertEqual(set(judged), {True, False})

    def test_single_steps(self):
        path = Graph(3, ((0, 1), (1, 2)))
        one, other = ("drawn", ((0, 1),), ((0, (1,)), (1, (0,)))), ("drawn", ((1, 2),), ((1, (2,)), (2, (1,))))
        for value, wanted in (
                ((one, other, ("split", path.lines, (1,))), True), ((other, one, ("split", path.lines, (1,))), True),
                ((one, other, ("split", path.lines, ())), False), ((one, other, ("split", path.lines, (0,))), False),
                ((one, other, ("split", path.lines, (0, 1))), False), ((one, other, ("split", path.lines, (1, 1))), False),
                ((one, other, ("split", path.lines, (True,))), False), ((one, other, ("split", path.lines, (3,))), False),
                ((one, one, other, ("split", path.lines, (1,))), False), ((one, ("split", path.lines, (1,))), False),
                ((one, other, ("split", path.lines, [1])), False), ((one, other), False), ((), False),
                ((("drawn", path.lines, ((0, (1,)), (1, (0, 2)), (2, (1,)))),), True),
                ((("drawn", path.lines, ((0, (1,)), (1, (2, 0)), (2, (1,)))),), True),
                ((("drawn", path.lines, ((0, (1,)), (1, (2, 2)), (2, (1,)))),), False),
                ((("drawn", path.lines, ((0, (1,)), (1, (2,)), (2, (1,)))),), False),
                ((("drawn", path.lines, ((0, (1,)), (1, (2, 0)), (2, (True,)))),), False),
                ((("drawn", path.lines, ((False, (1,)), (1, (2, 0)), (2, (1,)))),), False),
                ((("drawn", path.lines, ((1, (2, 0)), (0, (1,)), (2, (1,)))),), False)):
            self.assertIs(is_six_or_parting(path, ("parted", value)), wanted, value)
        # Two knots apart that the sheet does not join: both parts have their pair nevertheless.
        square = ring(4)
        parts = [tuple(sorted((*some, (0, 2)))) for some in (((0, 1), (1, 2)), ((2, 3), (0, 3)))]
        drawn = [("drawn", part, turns_by(part)) for part in parts]
        self.assertIs(is_six_or_parting(square, ("parted", (*drawn, ("split", square.lines, (0, 2))))), True)
        bare = [("drawn", tuple(sorted(some)), turns_by(some)) for some in (((0, 1), (1, 2)), ((0, 3), (2, 3)))]
        self.assertIs(is_six_or_parting(square, ("parted", (*bare, ("split", square.lines, (0, 2))))), False)

    def test_parts_have_fewer_pairs(self):
        path, less = Graph(3, ((0, 1), (1, 2))), without_pair(FIVE, (1, 3))
        for sheet, knots, parts in (
                (path.lines, (0, 1), (((0, 1),), path.lines)), (path.lines, (0, 2), (((0, 2),), ((0, 1), (0, 2), (1, 2)))),
                (path.lines, (), ((), path.lines)), (path.lines, (1,), ((), path.lines)), (path.lines, (1, 2), (((1, 2),), path.lines))):
            for some in (parts, parts[::-1]):
                value = (*[("drawn", part, turns_by(part)) for part in some], ("split", sheet, knots))
                self.assertFalse(own_is_parting(path, value))
                self.assertIs(is_six_or_parting(path, ("parted", value)), False)
        # Five knots, but not all ten pairs.
        self.assertIs(is_six_or_parting(less, ("parted", (("five", less.lines),))), False)
        self.assertIs(is_six_or_parting(ring(5), ("parted", (("five", ring(5).lines),))), False)

    def test_turns_with_handles(self):
        # Of all turns of four knots just two draw, begun anywhere.
        sheet = FOUR.lines
        for turns in (((0, (1, 2, 3)), (1, (0, 2, 3)), (2, (0, 1, 3)), (3, (0, 1, 2))),
                      ((0, (1, 2, 3)), (1, (0, 3, 2)), (2, (0, 1, 3)), (3, (0, 2, 1))), ((0, (2, 3, 1)), (1, (0, 3, 2)), (2, (0, 1, 3)), (3, (0, 2, 1)))):
            self.assertIs(is_six_or_parting(FOUR, ("parted", (("drawn", sheet, turns),))), own_draw(4, sheet, turns))
        self.assertIs(is_six_or_parting(FIVE, ("parted", (("drawn", FIVE.lines, turns_by(FIVE.lines)),))), False)
        self.assertIs(is_six_or_parting(CUBIC, ("parted", (("five", CUBIC.lines),))), False)
        wide = tuple(combinations(range(16), 2))
        for size in (24, 25, 26, 120):
            value = ("parted", (("drawn", wide[:size], turns_by(wide[:size])),))
            self.assertIs(is_six_or_parting(LADDER, value), False)
        self.assertIs(is_six_or_parting(LADDER, ("parted", (("drawn", wide, ()),))), False)

    def test_the_judged_value_is_never_an_error(self):
        for value in (*GRAPHLIKE, ("parted", None), ("parted", ()), ("parted", (None,)), ("parted", [("five", FIVE.lines)]), ("parted", ((),)),
                      ("parted", (("five", None),)), ("parted", (("drawn", (), None),)), ("parted", (("split", (), ()),)), ("parted", "drawn"),
                      ("parted", (("drawn", ((0, 1),), ((0, None), (1, None))),)), ("parted", (("drawn", ((0, 1),), (None, None)),)),
                      ("parted", (("five", LONGEST),)), ("parted", (("drawn", ((0, 1),), ((0, (1,), 0), (1, (0,), 0))),)),
                      ("parted", (("drawn", ((0, 1),), ((0, [1]), (1, [0]))),)), ("parted", (("drawn", ((0, 1),), ([0, (1,)], [1, (0,)])),)), ("parted", (("drawn", ((0, LONG),), ()),)), ("parted", ("five", FIVE.lines)), FIVE_BAR):
            for graph in (FIVE, CUBIC, GRID):
                self.assertIs(is_six_or_parting(graph, value), graph is CUBIC and value is CUBE_BAR)
            self.assertIs(is_six_or_parting(Graph(2, ((0, 1),)), value), False)
            caught(InvalidGraph, is_six_or_parting, None, value)

    def test_speed(self):
        for graph in (LADDER, GRID, complete(6), *GLUED[-6:], *HIDDEN[-6:]):
            begun = perf_counter()
            self.check(graph)
            self.assertLess(perf_counter() - begun, 3)


def turns_by(sheet):
    """Turns of a sheet that any turns draw."""
    return tuple((knot, tuple(sum(pair) - knot for pair in sorted(sheet) if knot in pair)) for knot in own_knots(sheet))


def bent_steps(graph, step):
    """Steps that are like a step; some of them may be right."""
    word, sheet, *more = step
    pairs = list(combinations(range(graph.many), 2))
    found = [(word, sheet[1:], *more), (word, sheet[::-1], *more), (word, tuple(sorted({*sheet} ^ {CHANCE.choice(pairs)})), *more),
             (word, sheet + sheet[-1:], *more)]
    if word == "drawn":
        turns = more[0]
        found += [(word, sheet, turns[1:]), (word, sheet, turns[::-1]), ("five", sheet)]
        for at, (knot, fars) in enumerate(turns):
            for worse in (fars[1:], fars[::-1], fars[1:] + fars[:1], fars + fars[:1], tuple(CHANCE.sample(fars, len(fars)))):
                found.append((word, sheet, (*turns[:at], (knot, worse), *turns[at + 1:])))
    if word == "split":
        found += [(word, sheet, knots) for size in (0, 1, 2, 3) for knots in list(combinations(range(graph.many), size))[:9]]
        found += [(word, sheet, more[0][::-1]), ("drawn", sheet, turns_by(sheet))]
    if word == "five":
        found += [("drawn", sheet, turns_by(sheet)), ("split", sheet, ())]
    return found


class Fewest(unittest.TestCase):
    def test_fewest(self):
        counts = {2: 0, 3: 0}
        for book in BARRED:
            least = fewest_qubits(book)
            counts[least] += 1
            self.assertEqual(least == 2, six_or_parting(plain_graph(book))[0] == "six")
            found = few_operators(book)
            self.assertTrue(own_are_right(book, found))
            self.assertEqual(len(found[0]) - 1, least)
        self.assertGreater(min(counts.values()), 5)

    def test_two_letters_are_not_enough_for_fives(self):
        for graph in [graph for graph in GLUED if fits(graph) and is_whole(graph) and not is_planar(graph)]:
            book = paired_of(graph, odd_bits(CHANCE, graph.many))
            self.assertEqual(fewest_qubits(book), 3)
            self.assertEqual(len(few_operators(book)[0]), 4)
            self.assertTrue(own_are_right(book, few_operators(book)))
        # The pentagram has one right table alone, of the rank six.
        self.assertEqual(own_changes(PENTAGRAM), [])
        self.assertEqual(own_rank(10, tuple((e, f) for e, f in combinations(range(10), 2) if not own_commute(TEN[e], TEN[f]))), 6)

    def test_planar_books(self):
        for _ in range(10):
            book, _ = planar_book(CHANCE, 10, 16)
            for call in (fewest_qubits, few_operators):
                self.assertEqual(caught(Refused, call, book).reason, ("planar",))

    def test_at_the_bounds(self):
        ladder = paired_of(LADDER, odd_bits(CHANCE, 16))
        begun = perf_counter()
        self.assertEqual(fewest_qubits(ladder), 2)
        self.assertTrue(own_are_right(ladder, few_operators(ladder)))
        self.assertLess(perf_counter() - begun, 3)


class NoneOfTheseIsTrue(unittest.TestCase):
    def test_bars_of_five_and_of_six(self):
        graph = complete(6)
        self.assertEqual({bar[0] for bar in own_bars(graph)}, {"five", "six"})
        self.assertEqual(six_or_parting(graph)[0], "six")

    def test_a_parting_of_a_graph_that_is_not_planar(self):
        self.assertEqual((six_or_parting(FIVE)[0], is_planar(FIVE)), ("parted", False))


class WrongArguments(unittest.TestCase):
    def test_wrong_arguments(self):
        book = {0: (InvalidBook, NO_BOOK)}
        bars = {**book, 1: (InvalidOperation, tuple(value for value in GRAPHLIKE if value is not CUBE_BAR) + (
            list(CUBE_BAR), CUBE_BAR[:-1], ("six", (0, 1, 2), (3, 4, 5), CUBE_BAR[3][::-1]), FIVE_BAR))}
        graph = {0: (InvalidGraph, NO_GRAPH)}
        for call, good, bad in (
                (lifted, (SQUARE, CUBE_BAR), bars), (is_lifted, (SQUARE, CUBE_BAR, None), bars), (six_or_parting, (FIVE,), graph),
                (is_six_or_parting, (FIVE, None), graph), (fewest_qubits, (SQUARE,), book), (few_operators, (SQUARE,), book)):
            check_errors(call, good, bad)

    def test_what_comes_then_in_its_sequence(self):
        loose = beside(CHAIN, TRIANGLE)
        several = beside(bent(SQUARE, 0), TRIANGLE)
        for book, bar, reason in ((CHAIN, None, "pairs"), (CHAIN, CUBE_BAR, "pairs"), (loose, LONGEST, "pairs"), (BOTH, CUBE_BAR, "pieces"),
                                  (several, CUBE_BAR, "pieces"), (beside(SQUARE, bent(TRIANGLE, 0)), CUBE_BAR, "pieces"),
                                  (bent(SQUARE, 0), CUBE_BAR, "even"), (bent(PENTAGRAM, 1), FIVE_BAR, "even")):
            self.assertEqual(caught(Refused, lifted, book, bar).reason, (reason,))
            self.assertEqual(caught(Refused, is_lifted, book, bar, LETTERS).reason, (reason,))
            for call in (fewest_qubits, few_operators):
                self.assertEqual(caught(Refused, call, book).reason, (reason,))
        for book in (BOTH, bent(SQUARE, 0), TRIANGLE, bent(TRIANGLE, 1)):
            # A paired book: its bar is looked at first.
            caught(InvalidOperation, lifted, book, None)
            caught(InvalidOperation, is_lifted, book, FIVE_BAR, None)
        for call in (fewest_qubits, few_operators):
            self.assertEqual(caught(Refused, call, bent(TRIANGLE, 0)).reason, ("even",))
            self.assertEqual(caught(Refused, call, beside(TRIANGLE, TRIANGLE)).reason, ("pieces",))

    def test_nothing_is_changed_and_equal_calls_return_equal_results(self):
        for book in BARRED[:6]:
            self.assertEqual(few_operators(book), few_operators(book))
            self.assertEqual(six_or_parting(plain_graph(book)), six_or_parting(plain_graph(book)))


if __name__ == "__main__":
    unittest.main()
