"""Promises [8.1] to [8.8], and the second half of [0.18]: arcs over a row, moves, odd tables."""

import unittest
from itertools import combinations, permutations
from random import Random
from time import perf_counter

from askedapart.errors import InvalidGraph, InvalidOperation
from askedapart.net.arcs import (are_moves, are_pairs, crossing_pairs, is_moves_between, is_moves_or_table, is_odd_table,
                                 move_count, moves_between, moves_or_table, table_of_bar, turned_pairs)
from askedapart.net.graphs import Graph
from askedapart.net.plane import is_planar, turning_or_bar
from graph_samples import (BARE, BARES, BUNDLE, CUBE_BAR, CUBIC, FIVE, FIVE_BAR, FOUR, GRAPHLIKE, GRID, KITE, LADDER, NAMED,
                           NO_GRAPH, OCTAHEDRON, PETERSEN, TWO_RINGS, check_errors, complete, grown_drawing, own_bars,
                           own_lines_at, own_planar, random_graph, ring, small_graphs, with_hidden_bar)
from samples import LONG, LONGEST, NOTHING, deep

CHANCE = Random(8)
SMALL = small_graphs(60, seed=81, knots=6, lines=6)
MIDDLE = [*small_graphs(40, seed=82, knots=9, lines=16), *NAMED]
HIDDEN = [with_hidden_bar(CHANCE, ("five", "six")[k % 2], drawn=3, more=k % 4, further=k % 5) for k in range(24)]
PLANE = [grown_drawing(CHANCE, CHANCE.randint(1, 16), CHANCE.randint(0, 24))[0] for _ in range(24)]


def some_order(graph):
    """The knots in whatever sequence."""
    return tuple(CHANCE.sample(range(graph.many), graph.many))


def own_apart(graph):
    """All pairs of lines with four ends in all."""
    lines = range(len(graph.lines))
    return [(e, f) for e, f in combinations(lines, 2) if len({*graph.lines[e], *graph.lines[f]}) == 4]


def own_crossing(graph, order):
    """The pairs whose ends come by turns along the row."""
    found = []
    for e, f in own_apart(graph):
        ends = [knot for knot in order if knot in graph.lines[e] + graph.lines[f]]
        if [knot in graph.lines[e] for knot in ends] in ([True, False, True, False], [False, True, False, True]):
            found.append((e, f))
    return tuple(found)


def own_moves(graph):
    """All moves, ascending."""
    return [(e, k) for e in range(len(graph.lines)) for k in range(graph.many) if k not in graph.lines[e]]


def own_turned(graph, pairs, moves):
    """The pairs behind the moves, one move behind the other."""
    held, apart = set(pairs), set(own_apart(graph))
    for line, knot in moves:
        for other in own_lines_at(graph, knot):
            pair = (min(line, other), max(line, other))
            if pair in apart:
                held ^= {pair}
    return tuple(sorted(held))


def own_odd(graph, pairs, order):
    """Whether the pairs are an odd table by the words of [8.4], for this order."""
    for line, knot in own_moves(graph):
        if sum((min(line, other), max(line, other)) in pairs for other in own_lines_at(graph, knot)) % 2:
            return False
    return len(set(pairs) & set(own_crossing(graph, order))) % 2 == 1


def all_lots(things):
    """All ascending tuples of some of the things."""
    return [lot for size in range(len(things) + 1) for lot in combinations(things, size)]


def own_table(graph, bar):
    """The table of a bar by the words of [8.6]."""
    if bar[0] == "five":
        ends = list(combinations(bar[1], 2))
    else:
        ends = [(a, b) for a in bar[1] for b in bar[2]]
    found = set()
    for (one, way), (other, more) in combinations(list(zip(ends, bar[-1])), 2):
        if not set(one) & set(other):
            found |= {(min(e, f), max(e, f)) for e in way for f in more}
    return tuple(sorted(found))


class Examples(unittest.TestCase):
    def test_examples(self):
        self.assertEqual([crossing_pairs(FOUR, (0, 1, 2, 3)), crossing_pairs(FOUR, (0, 2, 1, 3)),
                          turned_pairs(FOUR, ((1, 4),), ((1, 1),)), move_count(FOUR)], [((1, 4),), ((0, 5),), (), 512])
        self.assertEqual([is_moves_or_table(FOUR, (0, 1, 2, 3), ("moves", ((4, 2),))),
                          moves_or_table(CUBIC, (0, 1, 2, 3, 4, 5))[0], len(table_of_bar(CUBIC, CUBE_BAR))], [True, "table", 18])
        self.assertIs(is_moves_between(FOUR, (0, 1, 2, 3), (0, 2, 1, 3), ((0, 2), (4, 2))), True)


class Arcs(unittest.TestCase):
    def test_crossing_pairs(self):
        for graph in [*SMALL, *MIDDLE, *HIDDEN]:
            for _ in range(4):
                order = some_order(graph)
                self.assertEqual(crossing_pairs(graph, order), own_crossing(graph, order))
        for order in permutations(range(4)):
            self.assertEqual(len(crossing_pairs(FOUR, order)), 1)

    def test_only_lines_that_are_apart_cross(self):
        self.assertEqual(crossing_pairs(Graph(3, ((0, 1), (0, 2), (1, 2), (0, 1))), (0, 1, 2)), ())
        self.assertEqual(crossing_pairs(Graph(4, ((0, 2), (1, 3), (0, 2))), (0, 1, 2, 3)), ((0, 1), (1, 2)))

    def test_pairs(self):
        for graph in SMALL:
            apart = own_apart(graph)
            for lot in all_lots(apart)[:64]:
                self.assertIs(are_pairs(graph, lot), True)
                for wrong in (lot[::-1], lot + lot, list(lot), (*lot, (0, 0)), (*lot, (0, len(graph.lines))), (lot,)):
                    self.assertIs(are_pairs(graph, wrong), wrong in ((), lot))
            for e in range(-1, len(graph.lines) + 1):
                for f in range(-1, len(graph.lines) + 1):
                    self.assertIs(are_pairs(graph, ((e, f),)), (e, f) in apart)
        for value in (((True, 4),), ((1, 4, 0),), ((1,),), ([1, 4],), (1, 4), ((1, LONG),), ((1, "4"),), ((4, 1),)):
            self.assertIs(are_pairs(FOUR, value), False)
        self.assertIs(are_pairs(FOUR, ((1, 4),)), True)

    def test_moves(self):
        for graph in SMALL:
            moves = own_moves(graph)
            some = tuple(move for move in moves if CHANCE.randrange(2))
            self.assertIs(are_moves(graph, some), True)
            self.assertIs(are_moves(graph, tuple(moves)), True)
            self.assertIs(are_moves(graph, some[::-1]), len(some) < 2)
            self.assertIs(are_moves(graph, some + some), some == ())
            self.assertIs(are_moves(graph, list(some)), False)
            for line in range(-1, len(graph.lines) + 1):
                for knot in range(-1, graph.many + 1):
                    self.assertIs(are_moves(graph, ((line, knot),)), (line, knot) in moves)
        for value in (((True, 2),), ((0, True),), ((0, 2, 0),), ([0, 2],), (0, 2), ((0, LONG),), ((0, None),)):
            self.assertIs(are_moves(FOUR, value), False)

    def test_what_judges_takes_every_value(self):
        for value in (*GRAPHLIKE, (((0, 1),),), ((0, 1), 0), (("bits", 0),), ((0, {}),), (({}, []),), deep((0, 1), 6, tuple)):
            for graph in (FOUR, BARE, GRID):
                self.assertIs(are_pairs(graph, value), value == ())
                self.assertIs(are_moves(graph, value), value == ())
                self.assertIs(is_odd_table(graph, value), False)


class Moves(unittest.TestCase):
    def test_turned_pairs(self):
        for graph in [*SMALL, *MIDDLE]:
            apart, moves = own_apart(graph), own_moves(graph)
            for _ in range(4):
                pairs = tuple(pair for pair in apart if CHANCE.randrange(2))
                some = tuple(move for move in moves if CHANCE.randrange(3) == 0)
                found = turned_pairs(graph, pairs, some)
                self.assertEqual(found, own_turned(graph, pairs, some))
                self.assertEqual(turned_pairs(graph, found, some), pairs)
            self.assertEqual(turned_pairs(graph, tuple(apart), ()), tuple(apart))

    def test_neighbours_that_change_places(self):
        for graph in [*SMALL, *MIDDLE]:
            order = some_order(graph)
            for at in range(graph.many - 1):
                k, m = order[at:at + 2]
                other = (*order[:at], m, k, *order[at + 2:])
                for one, two in ((k, m), (m, k)):
                    moves = tuple((e, two) for e in own_lines_at(graph, one) if two not in graph.lines[e])
                    self.assertEqual(turned_pairs(graph, crossing_pairs(graph, order), moves), crossing_pairs(graph, other))
                    self.assertIs(is_moves_between(graph, order, other, moves), True)

    def test_between_any_two_orders(self):
        for graph in [*SMALL, *MIDDLE, *HIDDEN]:
            for _ in range(3):
                order, other = some_order(graph), some_order(graph)
                moves = moves_between(graph, order, other)
                self.assertIs(are_moves(graph, moves), True)
                self.assertEqual(own_turned(graph, own_crossing(graph, order), moves), own_crossing(graph, other))
                self.assertIs(is_moves_between(graph, order, other, moves), True)
        self.assertEqual(moves_between(BARE, (0,), (0,)), ())
        for order in permutations(range(5)):
            moves = moves_between(KITE, (0, 1, 2, 3, 4), order)
            self.assertEqual(own_turned(KITE, own_crossing(KITE, range(5)), moves), own_crossing(KITE, order))

    def test_the_judge_of_moves_between(self):
        judged = []
        for graph in (FOUR, KITE, Graph(4, FOUR.lines[1:]), TWO_RINGS, Graph(5, ((0, 2), (1, 3), (2, 4)))):
            moves = own_moves(graph)
            for _ in range(6):
                order, other = some_order(graph), some_order(graph)
                start, end = own_crossing(graph, order), own_crossing(graph, other)
                # Of any moves, and so also of right ones that the package would not tell.
                for lot in [tuple(move for move in moves if CHANCE.randrange(2)) for _ in range(60)]:
                    wanted = own_turned(graph, start, lot) == end
                    judged.append(wanted)
                    self.assertIs(is_moves_between(graph, order, other, lot), wanted)
                found = moves_between(graph, order, other)
                for wrong in (list(found), found + found[-1:], found[::-1], (found,), ("moves", found), None):
                    self.assertIs(is_moves_between(graph, order, other, wrong), own_turned(graph, start, ()) == end
                                  and wrong == () or wrong == found)
        self.assertEqual(set(judged), {True, False})


class OddTables(unittest.TestCase):
    def test_all_lots_of_pairs(self):
        found = set()
        for graph in [graph for graph in SMALL if len(own_apart(graph)) <= 8] + [FOUR]:
            for lot in all_lots(own_apart(graph)):
                wanted = own_odd(graph, lot, some_order(graph))
                self.assertIs(is_odd_table(graph, lot), wanted)
                found.add(wanted)
        # None of these small ones has an odd table; the next ones have just one.
        self.assertEqual(found, {False})
        for graph in (CUBIC, FIVE):
            pairs = tuple(own_apart(graph))
            self.assertTrue(all(own_odd(graph, pairs, some_order(graph)) for _ in range(5)))
            self.assertIs(is_odd_table(graph, pairs), True)
            for pair in pairs:
                self.assertIs(is_odd_table(graph, tuple(other for other in pairs if other != pair)), False)
            self.assertIs(is_odd_table(graph, ()), False)

    def test_random_lots_of_pairs(self):
        judged = []
        for graph in [*HIDDEN, PETERSEN, LADDER, complete(6)]:
            bar = turning_or_bar(graph)
            table = own_table(graph, bar)
            for k in range(12):
                # A table and what an odd number of further tables, or some pairs, have beside it.
                lot = set(table)
                for _ in range(k % 3):
                    lot ^= {CHANCE.choice(own_apart(graph))}
                value = tuple(sorted(lot))
                wanted = own_odd(graph, value, some_order(graph))
                judged.append(wanted)
                self.assertIs(is_odd_table(graph, value), wanted)
            for wrong in (table[::-1], list(table), table + table, (table,), ("table", table)):
                self.assertIs(is_odd_table(graph, wrong), False)
        self.assertEqual(set(judged), {True, False})

    def test_one_for_each_order_or_for_none(self):
        for graph in (CUBIC, FIVE, PETERSEN, *HIDDEN[:6]):
            table = table_of_bar(graph, turning_or_bar(graph))
            for _ in range(10):
                self.assertTrue(own_odd(graph, table, some_order(graph)))


class EitherOr(unittest.TestCase):
    def check(self, graph, order):
        """The word of what is told, which is right by its meaning."""
        found = moves_or_table(graph, order)
        if found[0] == "moves":
            self.assertEqual(own_turned(graph, own_crossing(graph, order), found[1]), ())
        else:
            self.assertEqual(found[0], "table")
            self.assertTrue(own_odd(graph, found[1], order))
        self.assertEqual(len(found), 2)
        self.assertIs(is_moves_or_table(graph, order, found), True)
        return found[0]

    def test_just_as_the_graph_is_planar(self):
        words = {"moves": 0, "table": 0}
        for graph in [*SMALL, *MIDDLE, *HIDDEN, *PLANE]:
            for _ in range(2):
                word = self.check(graph, some_order(graph))
                words[word] += 1
                self.assertEqual(word == "moves", is_planar(graph))
        self.assertGreater(min(words.values()), 20)

    def test_small_graphs_by_all_turnings(self):
        for graph in [*small_graphs(20, seed=83, knots=6, lines=9), FOUR, CUBIC]:
            self.assertEqual(self.check(graph, some_order(graph)) == "moves", own_planar(graph))

    def test_never_both(self):
        # All tuples of moves, and all lots of pairs, being gone through.
        for graph in [graph for graph in SMALL if len(own_moves(graph)) <= 9 and len(own_apart(graph)) <= 8]:
            order = some_order(graph)
            start = own_crossing(graph, order)
            lead = [moves for moves in all_lots(own_moves(graph)) if own_turned(graph, start, moves) == ()]
            tables = [lot for lot in all_lots(own_apart(graph)) if own_odd(graph, lot, order)]
            self.assertEqual(bool(lead), tables == [])
            self.assertEqual(len(lead), move_count(graph))
            for moves in lead:
                self.assertIs(is_moves_or_table(graph, order, ("moves", moves)), True)

    def test_the_judge(self):
        judged = []
        for graph in (FOUR, KITE, OCTAHEDRON, CUBIC, FIVE, *HIDDEN[:6]):
            order = some_order(graph)
            start, moves, apart = own_crossing(graph, order), own_moves(graph), own_apart(graph)
            found = moves_or_table(graph, order)
            for _ in range(30):
                lot = set(found[1])
                things = moves if found[0] == "moves" else apart
                for _ in range(CHANCE.randrange(3)):
                    lot ^= {CHANCE.choice(things)}
                value = tuple(sorted(lot))
                wanted = own_turned(graph, start, value) == () if found[0] == "moves" else own_odd(graph, value, order)
                judged.append((found[0], wanted))
                self.assertIs(is_moves_or_table(graph, order, (found[0], value)), wanted)
            for wrong in (found[1], found[::-1], (*found, ()), list(found), (found[0], list(found[1])), (found[0],),
                          ({"moves": "table", "table": "moves"}[found[0]], found[1]), (found[0], found[1][::-1])):
                self.assertIs(is_moves_or_table(graph, order, wrong), wrong == found)
        self.assertEqual(set(judged), {(word, wanted) for word in ("moves", "table") for wanted in (True, False)})
        for value in (*GRAPHLIKE, ("moves", None), ("moves", [()]), ("moves", (0,)), ("table", None), ("table", ((True, 4),)),
                      ("table", {}), ("moves", ((1, True),)), ("table", ()), ("moves", (LONGEST,))):
            for graph in (FOUR, CUBIC, GRID):
                self.assertIs(is_moves_or_table(graph, tuple(range(graph.many)), value), False)
        for graph in (BARE, BARES, BUNDLE, ring(16)):
            self.assertIs(is_moves_or_table(graph, tuple(range(graph.many)), ("moves", ())), True)

    def test_edges(self):
        self.assertEqual((moves_or_table(BARE, (0,)), move_count(BARE)), (("moves", ()), 1))
        self.assertEqual((crossing_pairs(BARES, tuple(range(16))), move_count(BARES)), ((), 1))
        self.assertEqual((moves_or_table(BUNDLE, tuple(range(16))), move_count(BUNDLE)), (("moves", ()), 2 ** (24 * 14)))

    def test_speed(self):
        for graph in (LADDER, GRID, with_hidden_bar(CHANCE, "five", drawn=8, more=4, further=9)):
            begun = perf_counter()
            self.check(graph, some_order(graph))
            moves_between(graph, tuple(range(graph.many)), tuple(range(graph.many))[::-1])
            move_count(graph)
            self.assertLess(perf_counter() - begun, 2)


class TablesOfBars(unittest.TestCase):
    def test_tables_of_bars(self):
        for graph in (CUBIC, FIVE, complete(6), Graph(6, CUBIC.lines + ((3, 4), (0, 1)))):
            for bar in own_bars(graph):
                found = table_of_bar(graph, bar)
                self.assertEqual(found, own_table(graph, bar))
                self.assertTrue(own_odd(graph, found, some_order(graph)))
        for graph in [*HIDDEN, PETERSEN, LADDER]:
            bar = turning_or_bar(graph)
            found = table_of_bar(graph, bar)
            self.assertEqual(found, own_table(graph, bar))
            self.assertTrue(own_odd(graph, found, some_order(graph)))
            self.assertIs(is_moves_or_table(graph, some_order(graph), ("table", found)), True)
        self.assertEqual((len(table_of_bar(CUBIC, CUBE_BAR)), len(table_of_bar(FIVE, FIVE_BAR))), (18, 15))


class Counts(unittest.TestCase):
    def test_as_many_for_each_order(self):
        for graph in [graph for graph in SMALL if len(own_moves(graph)) <= 10] + [Graph(4, FOUR.lines[:5])]:
            for order in (tuple(range(graph.many)), some_order(graph), some_order(graph)):
                start = own_crossing(graph, order)
                count = sum(own_turned(graph, start, moves) == () for moves in all_lots(own_moves(graph)))
                self.assertEqual(move_count(graph), count)

    def test_none_or_a_power_of_two(self):
        for graph in [*MIDDLE, *HIDDEN, *PLANE]:
            found = move_count(graph)
            self.assertEqual(found == 0, not is_planar(graph))
            self.assertEqual(found & (found - 1), 0)


class NoneOfTheseIsTrue(unittest.TestCase):
    def test_a_planar_graph_whose_orders_all_cross(self):
        self.assertTrue(is_planar(FOUR))
        self.assertTrue(all(crossing_pairs(FOUR, order) for order in permutations(range(4))))
        self.assertEqual(moves_or_table(FOUR, (3, 1, 0, 2))[0], "moves")

    def test_an_odd_table_that_is_of_no_bar(self):
        graph = Graph(5, FIVE.lines + ((0, 1), (0, 1)))
        bars = own_bars(graph)
        self.assertEqual(len(bars), 3)
        held = set()
        for bar in bars:
            held ^= set(table_of_bar(graph, bar))
        table = tuple(sorted(held))
        self.assertIs(is_odd_table(graph, table), True)
        self.assertTrue(own_odd(graph, table, (4, 2, 0, 1, 3)))
        self.assertNotIn(table, [table_of_bar(graph, bar) for bar in bars])
        self.assertIs(is_moves_or_table(graph, (0, 1, 2, 3, 4), ("table", table)), True)

    def test_fewer_moves_than_crossing_pairs(self):
        star = Graph(6, ((0, 2), (1, 3), (1, 4), (1, 5)))
        order = (0, 1, 2, 3, 4, 5)
        self.assertEqual(len(crossing_pairs(star, order)), 3)
        self.assertIs(is_moves_or_table(star, order, ("moves", ((0, 1),))), True)


class WrongArguments(unittest.TestCase):
    GRAPH = {0: (InvalidGraph, NO_GRAPH)}
    ORDERS = (*[value for value in NOTHING if value != (0, 1, 2, 3)], (0, 1, 2), (0, 1, 2, 2), (0, 1, 2, 4), (0, 1, 2, 3, 4),
              [0, 1, 2, 3], (0, True, 2, 3), (False, 1, 2, 3), (0, 1, 2, LONG), (-1, 0, 1, 2), (), "0123", ((0,), 1, 2, 3))

    def test_wrong_arguments(self):
        order = {**self.GRAPH, 1: (InvalidOperation, self.ORDERS)}
        both = {**order, 2: (InvalidOperation, self.ORDERS)}
        pairs = {**self.GRAPH, 1: (InvalidOperation, (*[value for value in GRAPHLIKE if value != ()], ((4, 1),), [(1, 4)],
                                                      ((0, 1),), ((1, 4), (1, 4)), ((True, 4),), ((0, 5), (0, LONG)))),
                 2: (InvalidOperation, (*[value for value in GRAPHLIKE if value != ()], ((0, 0),), ((1, 3), (0, 2)), [(0, 2)],
                                        ((0, 2), (0, 2)), ((0, 4),), ((6, 0),), ((False, 2),), ((0, LONG),)))}
        bar = {**self.GRAPH, 1: (InvalidOperation, tuple(value for value in GRAPHLIKE if value is not CUBE_BAR) + (
            list(CUBE_BAR), CUBE_BAR[:-1], ("six", (0, 1, 2), (3, 4, 5), CUBE_BAR[3][::-1])))}
        row = (0, 1, 2, 3)
        for call, good, bad in (
                (are_pairs, (FOUR, None), self.GRAPH), (are_moves, (FOUR, None), self.GRAPH), (crossing_pairs, (FOUR, row), order),
                (turned_pairs, (FOUR, (), ()), pairs), (moves_between, (FOUR, row, row[::-1]), both),
                (is_moves_between, (FOUR, row, row, None), both), (moves_or_table, (FOUR, row), order),
                (is_moves_or_table, (FOUR, row, None), order), (is_odd_table, (FOUR, None), self.GRAPH),
                (table_of_bar, (CUBIC, CUBE_BAR), bar), (move_count, (FOUR,), self.GRAPH)):
            check_errors(call, good, bad)

    def test_judged_moves_between(self):
        row = (0, 1, 2, 3)
        for value in (*GRAPHLIKE, ("moves", ()), ((0, 0),), ((1, True),), deep((0, 2), 6, tuple)):
            self.assertIs(is_moves_between(FOUR, row, row, value), value == ())

    def test_nothing_is_changed_and_equal_calls_return_equal_results(self):
        for graph in (FOUR, CUBIC, PETERSEN):
            before = (graph.many, graph.lines)
            order = tuple(range(graph.many))
            self.assertEqual(moves_or_table(graph, order), moves_or_table(graph, order))
            self.assertEqual(moves_between(graph, order, order[::-1]), moves_between(graph, order, order[::-1]))
            self.assertEqual((graph.many, graph.lines), before)
        self.assertEqual(random_graph(Random(1), 3, 2).many, 3)


if __name__ == "__main__":
    unittest.main()
