"""Promises [5.1] to [5.7]: turnings, rounds, handles, lines put in, borders."""

import unittest
from itertools import permutations, product
from random import Random

from askedapart.errors import (InvalidGraph, InvalidLot, InvalidNumber, InvalidOperation, InvalidTurning, TooMany)
from askedapart.net.graphs import Graph
from askedapart.net.turns import (behind, border, bordered, handles, is_bordered, is_drawn, is_turning, round_count,
                                  rounds, sides, with_line)
from graph_samples import (BARE, BARES, BUNDLE, CUBIC, FIVE, FLAT, FOUR, GRAPHLIKE, GRID, KITE, LADDER, NAMED, NO_GRAPH,
                           NO_INDEX, OCTAHEDRON, TWO_RINGS, all_turnings, check_errors, grown_drawing, is_own_turning,
                           own_behind, own_even_lots, own_handles, own_lines_at, own_pieces, own_places, own_rounds,
                           random_graph, random_turning, ring, small_graphs, without)
from samples import LONG, LONGEST, all_picks, caught

CHANCE = Random(11)
GRAPHS = [*NAMED, *small_graphs(60, seed=9)]
TURNED = [(graph, random_turning(CHANCE, graph)) for graph in GRAPHS for _ in range(3)] + [(FOUR, FLAT)]
SMALL = [(graph, turning) for graph, turning in TURNED if len(graph.lines) <= 7]
DRAWN = [grown_drawing(CHANCE, CHANCE.randint(2, 6), CHANCE.randint(0, 8)) for _ in range(30)]
TURNED_FOUR = ((0, 1, 2), (0, 3, 4), (1, 3, 5), (2, 4, 5))


def steps_of(graph):
    """All steps."""
    return [(line, direction) for line in range(len(graph.lines)) for direction in (0, 1)]


def own_sides(graph, turning):
    """For each line the indices of the rounds of both of its steps."""
    rows = own_rounds(graph, turning)
    return [tuple(next(at for at, row in enumerate(rows) if (line, way) in row) for way in (0, 1))
            for line in range(len(graph.lines))]


def own_border(graph, turning, lot):
    """The lines with just one step in the rounds of the lot."""
    rows = own_rounds(graph, turning)
    steps = [step for at in lot for step in rows[at]]
    return tuple(line for line in range(len(graph.lines)) if sum(step[0] == line for step in steps) == 1)


class Examples(unittest.TestCase):
    def test_examples(self):
        self.assertEqual([behind(FOUR, FLAT, 0, 0), rounds(FOUR, FLAT)[0], round_count(FOUR, FLAT), handles(FOUR, FLAT)],
                         [(4, 0), ((0, 0), (4, 0), (2, 1)), 4, (0,)])
        self.assertEqual([handles(FOUR, TURNED_FOUR), sides(FOUR, FLAT)[0], border(FOUR, FLAT, (0,))],
                         [(1,), (0, 1), (0, 2, 4)])
        self.assertEqual([bordered(FOUR, FLAT, (0,)), is_bordered(FOUR, FLAT, (0, 2, 4), (0,)),
                          is_drawn(Graph(2, ((0, 1), (0, 1))), ((0, 1), (0, 1)))], [None, True, True])


class Turnings(unittest.TestCase):
    def test_the_judge_takes_every_turning(self):
        for graph in small_graphs(25, seed=2, knots=4, lines=5) + [FOUR, KITE, BARE, BARES]:
            turns = [list(permutations(own_lines_at(graph, knot))) for knot in range(graph.many)]
            for value in list(product(*turns))[:600]:
                self.assertIs(is_turning(graph, value), True)
        for graph, turning in TURNED:
            self.assertIs(is_turning(graph, turning), True)
        for graph in (GRID, LADDER, BUNDLE):
            for _ in range(5):
                self.assertIs(is_turning(graph, random_turning(CHANCE, graph)), True)

    def test_and_no_other_value(self):
        for graph, turning in TURNED:
            wrong = [list(turning), [list(turn) for turn in turning], tuple(list(turn) for turn in turning),
                     turning + ((),), turning[:-1], turning + turning[:1], (turning,), tuple(turn + (0,) for turn in turning)]
            for knot, turn in enumerate(turning):
                for worse in (turn[1:], turn + turn[:1], turn[:-1] + (-1,), turn[:-1] + (len(graph.lines),), None, 0,
                              turn[:-1] + (None,), turn[:-1] + ("0",), turn[:-1] + (LONG,), turn[1:] + turn[1:2],
                              turn[:-1] + ((0,),), tuple(own_lines_at(graph, (knot + 1) % graph.many))):
                    wrong.append((*turning[:knot], worse, *turning[knot + 1:]))
            for value in wrong:
                self.assertIs(is_turning(graph, value), is_own_turning(graph, value), (graph.lines, value))
        for value in product([(), (0,), (1,), (0, 1), (1, 0), (0, 0), (False, 1), (0, True), (2,), (0, 1, 2)], repeat=2):
            self.assertIs(is_turning(Graph(2, ((0, 1), (0, 1))), value), is_own_turning(Graph(2, ((0, 1), (0, 1))), value))
        for value in GRAPHLIKE:
            self.assertIs(is_turning(FOUR, value), value is FLAT)
            self.assertIs(is_turning(BARE, value), value == ((),))
        self.assertIs(is_turning(Graph(2, ((0, 1),)), ((False,), (0,))), False)

    def test_begun_anywhere(self):
        for at in range(3):
            turning = tuple(turn[at:] + turn[:at] for turn in FLAT)
            self.assertEqual((is_turning(FOUR, turning), rounds(FOUR, turning)), (True, rounds(FOUR, FLAT)))


class Rounds(unittest.TestCase):
    def test_the_step_behind(self):
        for graph, turning in TURNED:
            for line, direction in steps_of(graph):
                found = behind(graph, turning, line, direction)
                self.assertEqual(found, own_behind(graph, turning, (line, direction)))
                # It begins where the step ends.
                self.assertEqual(graph.lines[found[0]][found[1]], graph.lines[line][1 - direction])

    def test_rounds(self):
        for graph, turning in TURNED:
            found = rounds(graph, turning)
            self.assertEqual(found, own_rounds(graph, turning))
            self.assertEqual(sorted(step for row in found for step in row), steps_of(graph))
            self.assertEqual(list(found), sorted(found))
            self.assertTrue(all(row[0] == min(row) for row in found))
            bare = sum(turn == () for turn in turning)
            self.assertEqual(round_count(graph, turning), len(found) + bare)

    def test_rounds_without_steps(self):
        self.assertEqual((rounds(BARE, ((),)), round_count(BARE, ((),)), handles(BARE, ((),))), ((), 1, (0,)))
        self.assertEqual((rounds(BARES, ((),) * 16), round_count(BARES, ((),) * 16)), ((), 16))
        self.assertEqual((handles(BARES, ((),) * 16), is_drawn(BARES, ((),) * 16)), ((0,) * 16, True))
        one = Graph(3, ((0, 2),))
        turning = ((0,), (), (0,))
        self.assertEqual((rounds(one, turning), round_count(one, turning), sides(one, turning)),
                         ((((0, 0), (0, 1)),), 2, ((0, 0),)))

    def test_sixteen_knots(self):
        for graph in (GRID, LADDER, BUNDLE):
            turning = random_turning(CHANCE, graph)
            self.assertEqual(rounds(graph, turning), own_rounds(graph, turning))
            self.assertEqual(handles(graph, turning), own_handles(graph, turning))
        there, back = tuple(range(24)), tuple(range(23, -1, -1))
        turning = tuple({3: there, 11: back}.get(knot, ()) for knot in range(16))
        self.assertEqual((round_count(BUNDLE, turning), is_drawn(BUNDLE, turning)), (24 + 14, True))

    def test_sides(self):
        for graph, turning in TURNED:
            self.assertEqual(sides(graph, turning), tuple(own_sides(graph, turning)))


class Handles(unittest.TestCase):
    def test_handles(self):
        for graph, turning in TURNED:
            found = handles(graph, turning)
            self.assertEqual(found, own_handles(graph, turning))
            self.assertIs(is_drawn(graph, turning), not any(found))
            whole = graph.many - len(graph.lines) + round_count(graph, turning)
            self.assertEqual(whole, sum(2 - 2 * h for h in found))
        self.assertTrue(any(sum(handles(graph, turning)) > 2 for graph, turning in TURNED))

    def test_trees_are_drawn_by_all_turnings(self):
        for graph, turning in TURNED:
            tree = Graph(graph.many, tuple(sorted(set(graph.lines))[:1]))
            self.assertIs(is_drawn(tree, random_turning(CHANCE, tree)), True)
        path = Graph(16, tuple((0, k) for k in range(1, 16)))
        for _ in range(20):
            self.assertIs(is_drawn(path, random_turning(CHANCE, path)), True)

    def test_handles_of_all_turnings(self):
        kinds = [0, 0]
        for turning in all_turnings(FOUR):
            self.assertEqual(handles(FOUR, turning), own_handles(FOUR, turning))
            kinds[handles(FOUR, turning)[0]] += 1
        self.assertEqual(kinds, [2, 14])
        self.assertTrue(all(handles(CUBIC, turning) in ((1,), (2,)) for turning in all_turnings(CUBIC)))

    def test_pieces_are_told_one_by_one(self):
        graph = Graph(9, ((1, 8), (1, 8), (1, 8), (2, 5), (0, 4), (0, 4), (4, 7)))
        same = {1: (0, 1, 2), 8: (0, 1, 2), 2: (3,), 5: (3,), 0: (4, 5), 4: (6, 4, 5), 7: (6,)}
        turning = tuple(same.get(knot, ()) for knot in range(9))
        self.assertEqual(own_pieces(graph), ((0, 4, 7), (1, 8), (2, 5), (3,), (6,)))
        self.assertEqual(handles(graph, turning), (0, 1, 0, 0, 0))


class LinesPutIn(unittest.TestCase):
    def test_the_graph_and_the_turns(self):
        graph, turning = with_line(FOUR, FLAT, (2, 1), (0, 3))
        self.assertEqual(graph, Graph(4, FOUR.lines + ((0, 2),)))
        self.assertEqual(turning, ((0, 1, 2, 6), (0, 4, 3), (1, 6, 3, 5), (2, 5, 4)))
        self.assertEqual(with_line(Graph(2, ()), ((), ()), (1, 0), (0, 0)), (Graph(2, ((0, 1),)), ((0,), (0,))))

    def test_what_becomes_of_the_handles(self):
        seen = {"round": 0, "piece": 0, "apart": 0}
        for graph, turning in [*SMALL, *DRAWN]:
            spots = own_places(graph, turning)
            before = dict(zip(own_pieces(graph), own_handles(graph, turning)))
            for one, other in product(spots, spots):
                if one[0] == other[0] or (len(spots) > 6 and CHANCE.randrange(8)):
                    continue
                more, after = with_line(graph, turning, one, other)
                self.assertEqual(more.lines, graph.lines + (tuple(sorted((one[0], other[0]))),))
                for knot in range(graph.many):
                    at = dict([one, other]).get(knot)
                    wanted = turning[knot] if at is None else (*turning[knot][:at], len(graph.lines), *turning[knot][at:])
                    self.assertEqual(after[knot], wanted)
                places = spots[one], spots[other]
                kind = "apart" if places[0][0] != places[1][0] else "round" if places[0] == places[1] else "piece"
                seen[kind] += 1
                parts = sum(before[piece] for piece in {places[0][0], places[1][0]})
                found = dict(zip(own_pieces(more), handles(more, after)))
                joined = next(piece for piece in found if one[0] in piece)
                self.assertEqual(found[joined], parts + (kind == "piece"))
                self.assertEqual({piece: h for piece, h in found.items() if piece != joined},
                                 {piece: h for piece, h in before.items() if not set(piece) <= set(joined)})
        self.assertTrue(all(seen.values()), seen)

    def test_spots_at_the_end_of_a_turn(self):
        # The gap behind the last line is that ahead of the first one, but the turns are other values.
        first, last = with_line(FOUR, FLAT, (0, 0), (1, 1)), with_line(FOUR, FLAT, (0, 3), (1, 1))
        self.assertEqual((first[1][0], last[1][0]), ((6, 0, 1, 2), (0, 1, 2, 6)))
        self.assertEqual(rounds(*first), rounds(*last))
        for knot in range(4):
            for spot in ((knot, 4), (knot, -1), (knot, True), (4, 0), (-1, 0), (True, 0), (knot,), [knot, 0], (knot, 0, 0)):
                caught(InvalidOperation, with_line, FOUR, FLAT, spot, ((knot + 1) % 4, 0))
                caught(InvalidOperation, with_line, FOUR, FLAT, ((knot + 1) % 4, 0), spot)
            caught(InvalidOperation, with_line, FOUR, FLAT, (knot, 0), (knot, 1))
            caught(InvalidOperation, with_line, FOUR, FLAT, (knot, 1), (knot, 1))

    def test_at_the_bound(self):
        for graph in (GRID, LADDER, BUNDLE):
            turning = random_turning(CHANCE, graph)
            self.assertEqual(caught(TooMany, with_line, graph, turning, (3, 0), (11, 1)).limit, 24)
            caught(InvalidOperation, with_line, graph, turning, (3, 0), (3, 0))
            caught(InvalidOperation, with_line, graph, turning, (3, 25), (11, 0))
        less = without(GRID, 23)
        turning = random_turning(CHANCE, less)
        more, after = with_line(less, turning, (15, 0), (11, 0))
        self.assertEqual((more, is_turning(more, after)), (GRID, True))


class Borders(unittest.TestCase):
    def test_borders(self):
        for graph, turning in SMALL:
            even = own_even_lots(graph)
            for lot in all_picks(len(own_rounds(graph, turning))):
                found = border(graph, turning, lot)
                self.assertEqual(found, own_border(graph, turning, lot))
                self.assertIn(found, even)

    def test_drawn_exactly_if_each_even_lot_is_a_border(self):
        kinds = set()
        for graph, turning in [*SMALL, *DRAWN]:
            if len(graph.lines) > 8 or len(own_rounds(graph, turning)) > 8:
                continue
            even = own_even_lots(graph)
            lots = {own_border(graph, turning, lot) for lot in all_picks(len(own_rounds(graph, turning)))}
            kinds.add(is_drawn(graph, turning))
            self.assertEqual(is_drawn(graph, turning), lots == even)
            self.assertEqual(all(bordered(graph, turning, lot) is not None for lot in even), lots == even)
            if len(own_pieces(graph)) == 1:
                r, h = round_count(graph, turning), handles(graph, turning)[0]
                self.assertEqual((len(lots), len(even)), (2 ** (r - 1), 2 ** (r - 1 + 2 * h)))
        self.assertEqual(kinds, {True, False})

    def test_bordered(self):
        for graph, turning in SMALL:
            lots = all_picks(len(own_rounds(graph, turning)))
            borders = {}
            for lot in lots:
                borders.setdefault(own_border(graph, turning, lot), []).append(lot)
            for lines in all_picks(len(graph.lines)):
                found = bordered(graph, turning, lines)
                self.assertEqual(found is None, lines not in borders)
                if found is not None:
                    self.assertIn(found, borders[lines])

    def test_the_judge_takes_every_lot_with_this_border_and_no_other_value(self):
        for graph, turning in [*SMALL[::4], (FOUR, FLAT), (FOUR, TURNED_FOUR), (BARE, ((),))]:
            lots = all_picks(len(own_rounds(graph, turning)))
            borders = [own_border(graph, turning, lot) for lot in lots]
            for lines in all_picks(len(graph.lines)):
                self.assertIs(is_bordered(graph, turning, lines, None), lines not in borders)
                for lot, wanted in zip(lots, borders):
                    self.assertIs(is_bordered(graph, turning, lines, lot), wanted == lines)
                    self.assertIs(is_bordered(graph, turning, lines, list(lot)), False)
                    self.assertIs(is_bordered(graph, turning, lines, (*lot, len(lots))), False)
                    if len(lot) > 1:
                        self.assertIs(is_bordered(graph, turning, lines, lot[::-1]), False)
        self.assertIs(is_bordered(FOUR, FLAT, (0, 2, 4), (False,)), False)
        self.assertIs(is_bordered(FOUR, FLAT, (0, 2, 4), (1, 2, 3)), True)
        self.assertEqual((bordered(BARE, ((),), ()), border(BARE, ((),), ())), ((), ()))

    def test_sixteen_knots(self):
        there, back = tuple(range(24)), tuple(range(23, -1, -1))
        for graph, turning in ((BUNDLE, tuple({3: there, 11: back}.get(knot, ()) for knot in range(16))),
                               (GRID, random_turning(CHANCE, GRID)), (LADDER, random_turning(CHANCE, LADDER))):
            for _ in range(20):
                lot = tuple(at for at in range(len(rounds(graph, turning))) if CHANCE.randrange(2))
                lines = border(graph, turning, lot)
                self.assertIs(is_bordered(graph, turning, lines, lot), True)
                self.assertIs(is_bordered(graph, turning, lines, bordered(graph, turning, lines)), True)

    def test_both_steps_in_one_round(self):
        for graph, turning in DRAWN:
            self.assertFalse(any(own_handles(graph, turning)))
            for line, (one, other) in enumerate(sides(graph, turning)):
                parts = len(own_pieces(without(graph, line))) > len(own_pieces(graph))
                self.assertEqual(one == other, parts)


class NoneOfTheseIsTrue(unittest.TestCase):
    def test_turnings_with_the_same_rounds_need_not_be_equal(self):
        other = (FLAT[0][1:] + FLAT[0][:1], *FLAT[1:])
        self.assertEqual(rounds(FOUR, other), rounds(FOUR, FLAT))
        self.assertTrue(other != FLAT and is_turning(FOUR, other) and is_drawn(FOUR, other))

    def test_a_graph_with_one_round_may_have_handles(self):
        graph, turning = Graph(2, ((0, 1),) * 3), ((0, 1, 2), (0, 1, 2))
        self.assertEqual((round_count(graph, turning), handles(graph, turning)), (1, (1,)))

    def test_with_two_lines_changed_a_turning_need_not_draw(self):
        self.assertEqual((is_drawn(FOUR, FLAT), is_drawn(FOUR, ((1, 0, 2), *FLAT[1:]))), (True, False))


class WrongArguments(unittest.TestCase):
    GRAPH = (InvalidGraph, NO_GRAPH)
    TURNING = (InvalidTurning, tuple(value for value in GRAPHLIKE if value is not FLAT)
               + (FLAT[:3], list(FLAT), FLAT + ((),), ((0, 1, 2), (0, 4, 3), (1, 3, 5), (2, 5, 3)),
                  ((False, 1, 2), *FLAT[1:]), ((0, 1), *FLAT[1:]), ([0, 1, 2], *FLAT[1:])))
    SPOT = (InvalidOperation, (*GRAPHLIKE, (0, 4), (0, -1), (0, True), (True, 0), (4, 0), [0, 0], (0,), (0, 0, 0), (0, LONG)))
    NO_SPOT = tuple(value for value in SPOT[1] if value != (2, 1))

    def test_no_graph_turning_line_direction_spot_lot(self):
        both = {0: self.GRAPH, 1: self.TURNING}
        lot = (InvalidLot, tuple(value for value in GRAPHLIKE if value != ()) + ((4,), (1, 0), (0, 0), [0], (0, 1, 2, 3, 4)))
        lines = (InvalidOperation, tuple(value for value in GRAPHLIKE if value != ())
                 + ((6,), (1, 0), (0, 0), [0], (0, 1, 2, 3, 4, 5, 6), (0, LONGEST)))
        for call, good, bad in (
                (is_turning, (FOUR, None), {0: self.GRAPH}),
                (behind, (FOUR, FLAT, 0, 0), {**both, 2: (InvalidNumber, (*NO_INDEX, 6, 7)),
                                             3: (InvalidNumber, (*NO_INDEX, 2, 3))}),
                (rounds, (FOUR, FLAT), both), (round_count, (FOUR, FLAT), both), (handles, (FOUR, FLAT), both),
                (is_drawn, (FOUR, FLAT), both), (sides, (FOUR, FLAT), both),
                (with_line, (FOUR, FLAT, (0, 1), (1, 2)), {**both, 2: (InvalidOperation, self.NO_SPOT),
                                                          3: (InvalidOperation, (*self.NO_SPOT, (0, 0), (0, 1)))}),
                (border, (FOUR, FLAT, (0,)), {**both, 2: lot}),
                (bordered, (FOUR, FLAT, (0,)), {**both, 2: lines}),
                (is_bordered, (FOUR, FLAT, (0,), None), {**both, 2: lines})):
            check_errors(call, good, bad)

    def test_lines_and_lots_that_are_ascending(self):
        self.assertIs(is_bordered(FOUR, FLAT, (0, 1), None), True)
        for lines in (False, True, (True,), (0, True)):
            caught(InvalidOperation, bordered, FOUR, FLAT, lines)
            caught(InvalidLot, border, FOUR, FLAT, lines)
        caught(InvalidLot, border, BARE, ((),), (0,))
        caught(InvalidOperation, bordered, BARE, ((),), (0,))
        caught(InvalidNumber, behind, BARE, ((),), 0, 0)

    def test_which_error_comes_first(self):
        turning = random_turning(CHANCE, BUNDLE)
        caught(InvalidTurning, with_line, BUNDLE, FLAT, (3, 0), (11, 0))
        caught(InvalidOperation, with_line, BUNDLE, turning, (0, 1), (11, 0))
        caught(InvalidOperation, with_line, BUNDLE, turning, (3, 0), (0, 1))
        self.assertEqual(caught(TooMany, with_line, BUNDLE, turning, (3, 24), (0, 0)).limit, 24)
        self.assertEqual(caught(InvalidNumber, behind, FOUR, FLAT, 6, 2).given, 6)
        self.assertEqual(caught(InvalidNumber, behind, FOUR, FLAT, 5, 2).given, 2)

    def test_the_judged_value_is_never_an_error(self):
        for value in GRAPHLIKE:
            self.assertIs(is_turning(LADDER, value), False)
            self.assertIs(is_bordered(FOUR, FLAT, (0, 2, 4), value), False)
            self.assertIs(is_bordered(FOUR, FLAT, (0,), value), value is None)

    def test_nothing_is_changed_and_equal_calls_return_equal_results(self):
        for graph, turning in ((FOUR, FLAT), (OCTAHEDRON, random_turning(CHANCE, OCTAHEDRON)), (TWO_RINGS, ((0, 1), (0, 2),
                               (2, 1), (3, 4), (5, 3), (4, 5)))):
            before = (graph.many, graph.lines, turning)
            for call, more in ((rounds, ()), (handles, ()), (sides, ()), (border, ((0,),)), (bordered, ((0, 1),)),
                               (with_line, ((0, 0), (1, 0)))):
                self.assertEqual(call(graph, turning, *more), call(graph, turning, *more))
            self.assertEqual((graph.many, graph.lines, turning), before)
        graph = random_graph(Random(1), 6, 9)
        self.assertEqual(round_count(ring(5), random_turning(CHANCE, ring(5))), 2)
        self.assertEqual(handles(graph, random_turning(Random(3), graph)), handles(graph, random_turning(Random(3), graph)))
        self.assertIs(is_drawn(FIVE, random_turning(CHANCE, FIVE)), False)


if __name__ == "__main__":
    unittest.main()
