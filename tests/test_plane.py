"""Promises [6.1] to [6.8] and the statement [0.18]: circles, fragments, graphs in the plane, or barred."""

import unittest
from itertools import combinations, permutations, product
from random import Random

from askedapart.errors import InvalidGraph, InvalidOperation
from askedapart.net.bars import is_bar
from askedapart.net.graphs import Graph
from askedapart.net.plane import (blocks, conflicts, fragments, is_circle, is_planar, is_sides_or_odd, is_turning_or_bar,
                                  sides_or_odd, turning_or_bar)
from graph_samples import (BARE, BARES, BUNDLE, CUBE_BAR, CUBIC, FIVE, FIVE_BAR, FLAT, FOUR, GRAPHLIKE, GRID, KITE, LADDER,
                           NAMED, NO_GRAPH, OCTAHEDRON, PETERSEN, TWO_RINGS, all_turnings, check_errors, complete, glued,
                           grown_drawing, is_own_turning, longer, own_circles, own_handles, own_is_bar, own_lines_at,
                           own_pieces, own_planar, own_walk, random_graph, random_turning, renamed, ring, small_graphs,
                           with_hidden_bar, without)
from samples import LONG, all_bits, caught

CHANCE = Random(21)
HEXAGON = (0, 1, 4, 5, 8, 6)
WHEEL = Graph(7, ((0, 1), (1, 2), (2, 3), (3, 4), (4, 5), (0, 5), (0, 6), (2, 6), (4, 6)))
MIDDLE = small_graphs(50, seed=5, knots=6, lines=9)
GRAPHS = [*[graph for graph in NAMED if len(graph.lines) < 24], WHEEL, *MIDDLE]
# One piece, with the circles of it, not too many.
CIRCLED = [(graph, own_circles(graph)) for graph in [CUBIC, FIVE, FOUR, KITE, PETERSEN, OCTAHEDRON, WHEEL, TWO_RINGS, *MIDDLE]]


def own_round(graph, circle):
    """The knots of a circle, one behind the other, begun with either end of its first line."""
    walks = [own_walk(graph, start, circle) for start in graph.lines[circle[0]]]
    return next(walk[:-1] for walk in walks if walk and walk[0] == walk[-1])


def own_is_circle(graph, value):
    """By the words of [6.1]."""
    lines = range(len(graph.lines))
    if type(value) is not tuple or len(value) < 2 or not all(type(line) is int and line in lines for line in value):
        return False
    walks = [own_walk(graph, start, value) for start in graph.lines[value[0]]]
    goes = any(walk and walk[0] == walk[-1] and len(set(walk)) == len(value) for walk in walks)
    told = value[0] == min(value) and (len(value) == 2 or value[1] < value[-1])
    return goes and told and len(set(value)) == len(value)


def own_fragments(graph, circle):
    """By the words of [6.3]."""
    knots = set(own_round(graph, circle))
    piece = next(set(lot) for lot in own_pieces(graph) if knots <= set(lot))
    inner = Graph(graph.many, tuple(ends for ends in graph.lines if not set(ends) & knots))
    found = [(ends, (line,)) for line, ends in enumerate(graph.lines) if set(ends) <= knots and line not in circle]
    for lot in own_pieces(inner):
        if set(lot) <= piece - knots:
            lines = tuple(line for line, ends in enumerate(graph.lines) if set(ends) & set(lot))
            found.append((tuple(sorted({end for line in lines for end in graph.lines[line]} & knots)), lines))
    return tuple(sorted(found))


def own_conflict(graph, circle, one, other):
    """By the words of [6.4], for the feet of two fragments."""
    if len(set(one) & set(other)) >= 3:
        return True
    knots = own_round(graph, circle)
    for a, b in permutations(one, 2):
        for c, d in permutations(other, 2):
            places = [(knots.index(knot) - knots.index(a)) % len(knots) for knot in (a, c, b, d)]
            if places == sorted(set(places)):
                return True
    return False


def own_conflicts(graph, circle):
    """All pairs that conflict."""
    feet = [feet for feet, _ in own_fragments(graph, circle)]
    return tuple((i, j) for i, j in combinations(range(len(feet)), 2) if own_conflict(graph, circle, feet[i], feet[j]))


def own_dealt(graph, circle):
    """Whether the fragments can be dealt to two sides, all bits being gone through."""
    pairs = own_conflicts(graph, circle)
    tried = all_bits(len(own_fragments(graph, circle)))
    return any(all(bits[i] != bits[j] for i, j in pairs) for bits in tried)


def own_is_sides_or_odd(many, pairs, value):
    """By the words of [6.4], for so many fragments with these conflicts, and tuples of numbers behind the words."""
    word, row = value
    if word == "sides":
        return len(row) == many and set(row) <= {0, 1} and all(row[i] != row[j] for i, j in pairs)
    unlike = len(set(row)) == len(row) and set(row) <= set(range(many)) and len(row) % 2 == 1
    return unlike and all((min(a, b), max(a, b)) in pairs for a, b in zip(row, row[1:] + row[:1]))


def own_blocks(graph):
    """By the words of [6.2]."""
    circles = own_circles(graph)
    return tuple(sorted({tuple(sorted({line, *[more for circle in circles if line in circle for more in circle]}))
                         for line in range(len(graph.lines))}))


def right(graph, value):
    """Whether the value is a turning that draws the graph, or a bar, by own walks; the word of which it is."""
    if value[0] == "drawn":
        assert is_own_turning(graph, value[1]) and not any(own_handles(graph, value[1]))
    else:
        assert own_is_bar(graph, value), (graph.lines, value)
    return value[0]


class Examples(unittest.TestCase):
    def test_examples(self):
        self.assertEqual([blocks(Graph(3, ((0, 1), (0, 1), (1, 2)))), is_circle(CUBIC, (0, 1, 4, 3)),
                          is_circle(CUBIC, (0, 3, 4, 1))], [((0, 1), (2,)), True, False])
        self.assertEqual([fragments(CUBIC, (0, 1, 4, 3)), conflicts(CUBIC, (0, 1, 4, 5, 8, 6)), is_planar(FOUR)],
                         [(((0, 1, 3, 4), (2, 5, 6, 7, 8)),), ((0, 1), (0, 2), (1, 2)), True])
        self.assertEqual([sides_or_odd(CUBIC, HEXAGON)[0], is_turning_or_bar(FOUR, ("drawn", FLAT))], ["odd", True])


class Circles(unittest.TestCase):
    def test_the_judge_takes_every_circle_and_no_other_value(self):
        for graph in [KITE, FOUR, *small_graphs(25, seed=6, knots=4, lines=5)]:
            circles = own_circles(graph)
            for size in range(5):
                for value in product(range(-1, len(graph.lines) + 1), repeat=size):
                    self.assertIs(is_circle(graph, value), value in circles, (graph.lines, value))
        for graph, circles in CIRCLED:
            for circle in circles:
                self.assertTrue(own_is_circle(graph, circle))
                self.assertIs(is_circle(graph, circle), True)
                for wrong in (list(circle), circle[::-1], circle[1:] + circle[:1], circle[:-1], circle + circle[:1],
                              circle[:1] + circle[:0:-1], circle[:-1] + (-1,), circle + circle, (circle,), circle[1:],
                              circle[:-1] + (len(graph.lines),), circle[:-1] + (LONG,), circle[:-1] + (None,)):
                    self.assertIs(is_circle(graph, wrong), own_is_circle(graph, wrong))

    def test_circles_of_two_lines(self):
        graph = Graph(2, ((0, 1),) * 3)
        self.assertEqual([value for value in product(range(3), repeat=2) if is_circle(graph, value)], [(0, 1), (0, 2), (1, 2)])
        for value in ((False, True), (0, True), (False, 1), (0,), (), (0, 1, 2), (1, 0), (0, 0)):
            self.assertIs(is_circle(graph, value), False)
        self.assertIs(is_circle(KITE, (0, 4)), True)
        self.assertIs(is_circle(KITE, (3, 3)), False)

    def test_lines_that_go_round_two_circles(self):
        twice = Graph(4, ((0, 1), (0, 1), (0, 2), (0, 2)))
        self.assertEqual([value for size in range(5) for value in product(range(4), repeat=size) if is_circle(twice, value)],
                         [(0, 1), (2, 3)])
        knotted = Graph(6, ((0, 1), (0, 2), (1, 2), (0, 3), (0, 4), (3, 4)))
        self.assertEqual(own_walk(knotted, 0, (0, 2, 1, 3, 5, 4)), [0, 1, 2, 0, 3, 4, 0])
        for value in permutations(range(6)):
            self.assertIs(is_circle(knotted, value), False)

    def test_sixteen_knots(self):
        lines = ring(16).lines
        walk = sorted(range(16), key=lambda line: lines[line][1] if lines[line] != (0, 15) else 16)
        told = tuple(walk[walk.index(0):] + walk[:walk.index(0)])
        told = told if told[1] < told[-1] else told[:1] + told[:0:-1]
        self.assertTrue(own_is_circle(ring(16), told))
        self.assertIs(is_circle(ring(16), told), True)
        self.assertIs(is_circle(ring(16), told[:1] + told[:0:-1]), False)
        self.assertEqual((is_circle(LADDER, told), len(fragments(LADDER, told))), (True, 8))
        self.assertEqual(sides_or_odd(LADDER, told)[0], "odd")


class Blocks(unittest.TestCase):
    def test_blocks(self):
        for graph in GRAPHS:
            found = blocks(graph)
            self.assertEqual(found, own_blocks(graph))
            self.assertEqual(sorted(line for block in found for line in block), list(range(len(graph.lines))))
        self.assertEqual((blocks(BARE), blocks(BARES), blocks(BUNDLE)), ((), (), (tuple(range(24)),)))
        self.assertEqual((blocks(GRID), blocks(LADDER)), ((tuple(range(24)),), (tuple(range(24)),)))
        path = Graph(16, tuple((k, k + 1) for k in range(15)))
        self.assertEqual(blocks(path), tuple((k,) for k in range(15)))

    def test_planar_exactly_if_each_block_is(self):
        joined = [glued(glued(one, other, [0]), more, [1]) for one, other, more in
                  ((FOUR, FOUR, FOUR), (FOUR, CUBIC, KITE), (KITE, CUBIC, KITE), (FIVE, KITE, ring(4)), (KITE, FIVE, FOUR))]
        kinds = set()
        for graph in [*GRAPHS, *joined, *[renamed(CHANCE, graph) for graph in joined]]:
            parts = [Graph(graph.many, tuple(graph.lines[line] for line in block)) for block in blocks(graph)]
            kinds.add(is_planar(graph))
            self.assertEqual(is_planar(graph), all(is_planar(part) for part in parts))
        self.assertEqual(kinds, {True, False})

    def test_several_blocks_at_one_knot(self):
        # Three blocks at the knot 0, and one more within a gap of the last one.
        graph = Graph(1, ())
        for more in (FOUR, ring(2), ring(3), Graph(2, ((0, 1),)), FOUR):
            graph = glued(graph, more, [0])
        for _ in range(10):
            other = renamed(CHANCE, graph)
            self.assertEqual(right(other, turning_or_bar(other)), "drawn")
        self.assertEqual(len(blocks(graph)), 5)


class Fragments(unittest.TestCase):
    def test_fragments(self):
        for graph, circles in CIRCLED:
            for circle in circles:
                self.assertEqual(fragments(graph, circle), own_fragments(graph, circle))
                self.assertEqual(conflicts(graph, circle), own_conflicts(graph, circle))

    def test_the_piece_alone(self):
        self.assertEqual(fragments(TWO_RINGS, (0, 1, 2)), ())
        self.assertEqual(sides_or_odd(TWO_RINGS, (0, 1, 2)), ("sides", ()))
        graph = Graph(7, ((0, 1), (1, 2), (0, 2), (2, 3), (3, 4), (0, 1), (5, 6), (5, 6)))
        self.assertEqual(fragments(graph, (0, 1, 2)), (((0, 1), (5,)), ((2,), (3, 4))))
        self.assertEqual(fragments(graph, (6, 7)), ())

    def test_three_common_feet(self):
        graph = Graph(5, ((0, 1), (1, 2), (0, 2), (0, 3), (1, 3), (2, 3), (0, 4), (1, 4), (2, 4)))
        self.assertEqual(conflicts(graph, (0, 1, 2)), ((0, 1),))
        self.assertIs(is_planar(graph), True)
        two = Graph(5, ((0, 1), (1, 2), (0, 2), (0, 3), (1, 3), (0, 4), (1, 4), (2, 4)))
        self.assertEqual(conflicts(two, (0, 1, 2)), ())

    def test_feet_in_turn(self):
        square = Graph(4, ((0, 1), (1, 2), (2, 3), (0, 3), (0, 2), (1, 3), (0, 2)))
        self.assertEqual(fragments(square, (0, 1, 2, 3)), (((0, 2), (4,)), ((0, 2), (6,)), ((1, 3), (5,))))
        self.assertEqual(conflicts(square, (0, 1, 2, 3)), ((0, 2), (1, 2)))
        # Feet beside one another, or with one in common, do not conflict.
        hexagon = Graph(6, ring(6).lines + ((0, 2), (3, 5), (2, 4), (0, 2)))
        circle = next(circle for circle in own_circles(hexagon) if len(circle) == 6 and max(circle) < 6)
        self.assertEqual((len(fragments(hexagon, circle)), conflicts(hexagon, circle)), (4, ((2, 3),)))


class Sides(unittest.TestCase):
    def test_what_is_told(self):
        words = set()
        for graph, circles in CIRCLED:
            for circle in circles:
                found = sides_or_odd(graph, circle)
                many, pairs = len(own_fragments(graph, circle)), own_conflicts(graph, circle)
                self.assertTrue(own_is_sides_or_odd(many, pairs, found))
                self.assertIs(is_sides_or_odd(graph, circle, found), True)
                self.assertEqual(found[0] == "sides", own_dealt(graph, circle))
                words.add(found[0])
        self.assertEqual(words, {"sides", "odd"})

    def test_the_judge_takes_every_one_and_no_other_value(self):
        for graph, circle in ((CUBIC, HEXAGON), (CUBIC, (0, 1, 4, 3)), (KITE, (0, 4)), (KITE, (0, 1, 2)), (FOUR, (0, 1, 3)),
                              (FIVE, (0, 3, 9, 7, 4)), (TWO_RINGS, (0, 1, 2)), (BUNDLE, (3, 5)), (complete(6), (0, 1, 5))):
            many, pairs = len(own_fragments(graph, circle)), own_conflicts(graph, circle)
            values = [("sides", row) for size in range(min(many, 4) + 2) for row in product((0, 1, 2), repeat=size)]
            values += [("sides", row) for row in (all_bits(many) if many < 9 else [(0,) * many, (0, 1) * (many // 2)])]
            values += [("odd", row) for size in range(5) for row in product(range(-1, min(many, 5) + 1), repeat=size)]
            for value in values:
                self.assertIs(is_sides_or_odd(graph, circle, value), own_is_sides_or_odd(many, pairs, value))

    def test_longer_odd_rows(self):
        # Five lines, each two neighbours of which cross within the circle.
        lines = ring(10).lines + tuple(tuple(sorted((2 * k, (2 * k + 3) % 10))) for k in range(5))
        graph = Graph(10, lines)
        circle = next(circle for circle in own_circles(graph) if sorted(circle) == list(range(10)))
        pairs = conflicts(graph, circle)
        self.assertEqual((len(fragments(graph, circle)), len(pairs)), (5, 5))
        rows = [row for row in permutations(range(5)) if is_sides_or_odd(graph, circle, ("odd", row))]
        self.assertEqual(len(rows), 10)
        self.assertIn(sides_or_odd(graph, circle)[1], rows)
        self.assertFalse(any(is_sides_or_odd(graph, circle, ("odd", row[:3])) for row in rows))
        for row in rows:
            self.assertIs(is_sides_or_odd(graph, circle, ("odd", list(row))), False)
            self.assertIs(is_sides_or_odd(graph, circle, ("odd", row + row[:1])), False)
        self.assertIs(is_planar(graph), False)

    def test_rows_with_unlike_ones_alone(self):
        graph = Graph(6, ring(6).lines + ((0, 3), (1, 4), (2, 5)) * 2)
        circle = next(found for found in own_circles(graph) if sorted(found) == list(range(6)))
        many, pairs = len(own_fragments(graph, circle)), own_conflicts(graph, circle)
        judged = {True: 0, False: 0}
        for row in product(range(6), repeat=5):
            if all((min(a, b), max(a, b)) in pairs for a, b in zip(row, row[1:] + row[:1])):
                wanted = own_is_sides_or_odd(many, pairs, ("odd", row))
                judged[wanted] += 1
                self.assertIs(is_sides_or_odd(graph, circle, ("odd", row)), wanted)
        self.assertGreater(min(judged.values()), 0)

    def test_only_values_of_the_right_kind(self):
        for value in (("odd", (0, True, 2)), ("odd", (False, 1, 2)), ("odd", [0, 1, 2]), ["odd", (0, 1, 2)], ("odd", (0,)),
                      ("odd", (0, 1, 2), None), ("odd", ()), ("odd",), (("odd",), (0, 1, 2)), ("sides", (0, 1, 0))):
            self.assertIs(is_sides_or_odd(CUBIC, HEXAGON, value), False)
        self.assertIs(is_sides_or_odd(CUBIC, HEXAGON, ("odd", (2, 0, 1))), True)
        for bits, judged in (((0, 0, 0), True), ((1, 0, 1), True), ((False, 0, 0), False), ((0, 0, True), False)):
            self.assertIs(is_sides_or_odd(Graph(2, ((0, 1),) * 5), (1, 3), ("sides", bits)), judged)


class PlanarExactlyIf(unittest.TestCase):
    def test_for_each_circle_or_for_some(self):
        kinds = set()
        for graph, circles in CIRCLED:
            if len(own_pieces(graph)) > 1:
                continue
            planar = is_planar(graph)
            kinds.add(planar)
            self.assertEqual(planar, all(own_dealt(graph, circle) for circle in circles))
            some = [circle for circle in circles if own_dealt(graph, circle)
                    and all(is_planar(self.circle_with(graph, circle, lines)) for _, lines in own_fragments(graph, circle))]
            self.assertEqual(planar, not circles or len(some) > 0)
            if planar:
                self.assertEqual(len(some), len(circles))
        self.assertEqual(kinds, {True, False})

    def circle_with(self, graph, circle, lines):
        """The graph of a circle and one fragment of it."""
        return Graph(graph.many, tuple(graph.lines[line] for line in sorted((*circle, *lines))))

    def test_by_all_turnings(self):
        kinds = []
        for graph in [FOUR, CUBIC, KITE, *MIDDLE]:
            count = 1
            for knot in range(graph.many):
                for more in range(2, len(own_lines_at(graph, knot))):
                    count *= more
            if count <= 800:
                kinds.append(is_planar(graph))
                self.assertIs(is_planar(graph), own_planar(graph))
                self.assertEqual(right(graph, turning_or_bar(graph)) == "drawn", own_planar(graph))
        self.assertGreater(min(kinds.count(True), kinds.count(False)), 0)


class EitherOr(unittest.TestCase):
    def check(self, graph):
        """Whether the graph is planar; what is told is right, and the judge takes it."""
        found = turning_or_bar(graph)
        self.assertIs(is_turning_or_bar(graph, found), True)
        self.assertIs(is_planar(graph), right(graph, found) == "drawn")
        if found[0] != "drawn":
            # Never both: no turning that one comes across draws it.
            for _ in range(5):
                self.assertIs(is_turning_or_bar(graph, ("drawn", random_turning(CHANCE, graph))), False)
        return found[0] == "drawn"

    def test_named_graphs(self):
        planar = [self.check(graph) for graph in NAMED]
        barred = [graph for graph, drawn in zip(NAMED, planar) if not drawn]
        self.assertEqual(barred, [CUBIC, FIVE, PETERSEN, LADDER])

    def test_whatever_graphs(self):
        kinds = []
        for _ in range(500):
            knots = CHANCE.randint(1, 16)
            kinds.append(self.check(random_graph(CHANCE, knots, CHANCE.randint(0, 24))))
        for _ in range(150):
            kinds.append(self.check(random_graph(CHANCE, CHANCE.randint(5, 16), 24)))
        self.assertGreater(min(kinds.count(True), kinds.count(False)), 80)

    def test_sixteen_knots_and_cubic(self):
        kinds = []
        for _ in range(150):
            ends = list(range(16)) * 3
            CHANCE.shuffle(ends)
            lines = tuple(tuple(sorted(ends[k:k + 2])) for k in range(0, 48, 2) if ends[k] != ends[k + 1])
            kinds.append(self.check(Graph(16, lines)))
        self.assertGreater(kinds.count(False), 40)

    def test_drawn_graphs(self):
        for _ in range(40):
            graph, turning = grown_drawing(CHANCE, CHANCE.randint(1, 10), CHANCE.randint(0, 20))
            self.assertIs(is_turning_or_bar(graph, ("drawn", turning)), True)
            self.assertTrue(self.check(graph))
            self.assertTrue(self.check(renamed(CHANCE, graph)))
            if graph.lines:
                self.assertTrue(self.check(without(graph, CHANCE.randrange(len(graph.lines)))))

    def test_hidden_bars(self):
        for k in range(60):
            graph = with_hidden_bar(CHANCE, ("five", "six")[k % 2], drawn=4, more=k % 4, further=k % 5)
            self.assertFalse(self.check(graph))

    def test_one_line_less_or_more(self):
        for graph, bar in ((FIVE, FIVE_BAR), (CUBIC, CUBE_BAR)):
            self.assertIs(is_turning_or_bar(graph, bar), True)
            for line in range(len(graph.lines)):
                less = without(graph, line)
                self.assertTrue(self.check(less))
                self.assertFalse(self.check(Graph(less.many, less.lines + (graph.lines[line],))))
                for _ in range(3):
                    graph = longer(CHANCE, graph)
                    self.assertFalse(self.check(graph))
                    if len(graph.lines) >= 20:
                        break
                self.assertTrue(self.check(without(graph, len(graph.lines) - 1)))
                graph = FIVE if bar is FIVE_BAR else CUBIC

    def test_lines_drawn_longer_or_told_several_times(self):
        for graph in [*MIDDLE, CUBIC, FIVE, FOUR, OCTAHEDRON, WHEEL, PETERSEN]:
            if graph.lines:
                planar = is_planar(graph)
                self.assertEqual(self.check(longer(CHANCE, graph)), planar)
                self.assertEqual(self.check(longer(CHANCE, longer(CHANCE, graph))), planar)
                twice = graph.lines + tuple(CHANCE.choice(graph.lines) for _ in range(5))
                self.assertEqual(self.check(Graph(graph.many, twice[:24])), planar)
                self.assertEqual(self.check(renamed(CHANCE, graph)), planar)

    def test_several_pieces(self):
        for one, other in product((FOUR, CUBIC, FIVE, KITE, TWO_RINGS, BARE), repeat=2):
            graph = glued(one, other, [])
            self.assertEqual(self.check(graph), self.check(one) and self.check(other))
            self.assertEqual(self.check(renamed(CHANCE, graph)), is_planar(graph))

    def test_bare_knots_and_no_lines(self):
        self.assertEqual(turning_or_bar(BARE), ("drawn", ((),)))
        self.assertEqual(turning_or_bar(BARES), ("drawn", ((),) * 16))
        self.assertEqual(turning_or_bar(Graph(2, ((0, 1),))), ("drawn", ((0,), (0,))))


class TheJudge(unittest.TestCase):
    def test_it_takes_every_turning_that_draws_and_no_other_one(self):
        for graph in (FOUR, CUBIC, Graph(2, ((0, 1),) * 4), Graph(3, ((0, 1), (0, 1), (0, 2), (1, 2), (1, 2)))):
            taken = 0
            for turning in all_turnings(graph):
                drawn = not any(own_handles(graph, turning))
                taken += drawn
                for at in range(2):
                    same = tuple(turn[at:] + turn[:at] for turn in turning)
                    self.assertIs(is_turning_or_bar(graph, ("drawn", same)), drawn)
                    self.assertIs(is_turning_or_bar(graph, ("bar", same)), False)
                    self.assertIs(is_turning_or_bar(graph, ("drawn", list(same))), False)
                    self.assertIs(is_turning_or_bar(graph, ("drawn", same, None)), False)
            self.assertEqual(taken > 0, graph != CUBIC)

    def test_it_takes_every_bar(self):
        for graph in (CUBIC, FIVE, PETERSEN, LADDER):
            for _ in range(10):
                more = renamed(CHANCE, graph)
                found = turning_or_bar(more)
                self.assertTrue(own_is_bar(more, found) and is_bar(more, found))
                self.assertIs(is_turning_or_bar(more, found), True)
                self.assertIs(is_turning_or_bar(more, ("drawn", found)), False)
        self.assertIs(is_turning_or_bar(FOUR, FIVE_BAR), False)


class NoneOfTheseIsTrue(unittest.TestCase):
    def test_one_circle_is_not_enough(self):
        self.assertEqual(sides_or_odd(CUBIC, (0, 1, 4, 3))[0], "sides")
        self.assertIs(is_planar(CUBIC), False)

    def test_two_fragments_with_three_feet_need_not_conflict(self):
        graph = Graph(8, ring(6).lines + ((0, 6), (1, 6), (2, 6), (3, 7), (4, 7), (5, 7)))
        circle = next(circle for circle in own_circles(graph) if sorted(circle) == list(range(6)))
        self.assertEqual(([feet for feet, _ in fragments(graph, circle)], conflicts(graph, circle)),
                         ([(0, 1, 2), (3, 4, 5)], ()))

    def test_unlike_blocks_may_have_a_common_knot(self):
        self.assertEqual(blocks(Graph(3, ((0, 1), (1, 2)))), ((0,), (1,)))

    def test_few_lines_need_not_be_planar(self):
        # [0.23]: nine lines are less than 3 * 6 - 6.
        self.assertTrue(len(CUBIC.lines) < 3 * CUBIC.many - 6 and not is_planar(CUBIC))


class WrongArguments(unittest.TestCase):
    def test_no_graph_no_circle(self):
        graph = {0: (InvalidGraph, NO_GRAPH)}
        circle = {**graph, 1: (InvalidOperation, (*GRAPHLIKE, (), (0,), (0, 3, 4, 1), (1, 4, 3, 0), [0, 1, 4, 3], (0, 1, 4),
                                                  (0, 1, 4, 9), (False, 1, 4, 3), (0, True, 4, 3), (0, 1, 4, 3, 0)))}
        for call, good, bad in (
                (blocks, (CUBIC,), graph), (is_circle, (CUBIC, None), graph), (turning_or_bar, (CUBIC,), graph),
                (is_turning_or_bar, (CUBIC, None), graph), (is_planar, (CUBIC,), graph),
                (fragments, (CUBIC, HEXAGON), circle), (conflicts, (CUBIC, HEXAGON), circle),
                (sides_or_odd, (CUBIC, HEXAGON), circle), (is_sides_or_odd, (CUBIC, HEXAGON, None), circle)):
            check_errors(call, good, bad)
        for call in (fragments, conflicts, sides_or_odd):
            caught(InvalidOperation, call, BARE, (0, 1))
            caught(InvalidOperation, call, BUNDLE, (1, 0))

    def test_the_judged_value_is_never_an_error(self):
        for value in GRAPHLIKE:
            self.assertIs(is_circle(CUBIC, value), False)
            self.assertIs(is_sides_or_odd(CUBIC, HEXAGON, value), False)
            self.assertIs(is_turning_or_bar(CUBIC, value), value is CUBE_BAR)
            self.assertIs(is_turning_or_bar(GRID, value), False)
            self.assertIs(is_turning_or_bar(FOUR, ("drawn", value)), value is FLAT)

    def test_nothing_is_changed_and_equal_calls_return_equal_results(self):
        before = (CUBIC.many, CUBIC.lines)
        for call, more in ((blocks, ()), (fragments, (HEXAGON,)), (conflicts, (HEXAGON,)), (sides_or_odd, (HEXAGON,)),
                           (turning_or_bar, ()), (is_planar, ())):
            self.assertEqual(call(CUBIC, *more), call(CUBIC, *more))
        self.assertEqual((CUBIC.many, CUBIC.lines), before)


if __name__ == "__main__":
    unittest.main()
