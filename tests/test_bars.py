"""Promises [7.1] to [7.6]: bars, critical lots of lines, clumps."""

import unittest
from itertools import combinations, permutations, product
from random import Random

from askedapart.errors import InvalidGraph, InvalidOperation, Refused
from askedapart.net.bars import (are_clumps, bar_by_clumps, bar_by_lines, bar_lines, clumps_of, critical_lines, grown,
                                 is_bar, is_critical)
from askedapart.net.graphs import Graph
from askedapart.net.plane import is_planar, turning_or_bar
from askedapart.net.turns import is_drawn
from graph_samples import (BARE, BARES, BUNDLE, CUBE_BAR, CUBIC, FIVE, FIVE_BAR, FLAT, FOUR, GRAPHLIKE, GRID, KITE, LADDER,
                           NO_GRAPH, PETERSEN, all_turnings, check_errors, complete, glued, grown_drawing, longer,
                           own_are_clumps, own_bars, own_handles, own_is_bar, own_pieces, own_planar, own_walk, own_ways,
                           random_turning, renamed, ring, small_graphs, with_hidden_bar)
from samples import LONG, all_picks, caught

CHANCE = Random(31)
SPOKES = ("five", ((0, 5), (1, 6), (2, 7), (3, 8), (4, 9)))
SIX_CLUMPS = ("six", ((0,), (1,), (2,)), ((3,), (4,), (5,)))
FIVE_CLUMPS = ("five", ((0,), (1,), (2,), (3,), (4,)))
# Three lines more than a bar of six: one drawn longer, one twice, one between two of the ones.
MORE_CUBIC = Graph(7, CUBIC.lines[1:] + ((0, 6), (3, 6), (0, 3), (0, 1)))
MORE_FIVE = Graph(6, FIVE.lines[1:] + ((0, 5), (1, 5)))
TWICE_FIVE = Graph(5, FIVE.lines + ((1, 3),))
SMALL = [CUBIC, FIVE, MORE_CUBIC, MORE_FIVE, TWICE_FIVE, Graph(6, CUBIC.lines + ((3, 4),)), FOUR, KITE]
HIDDEN = [with_hidden_bar(CHANCE, ("five", "six")[k % 2], drawn=3, more=k % 4, further=k % 5) for k in range(40)]


def alone(graph, lines):
    """The graph of these lines alone."""
    return Graph(graph.many, tuple(graph.lines[line] for line in lines))


def own_bar_lines(bar):
    """All lines of a bar, ascending."""
    return tuple(sorted(line for way in bar[-1] for line in way))


def own_critical_lots(graph):
    """All critical lots by the words of [7.3], all turnings being gone through; lesser lots come first."""
    found = set()
    for lot in all_picks(len(graph.lines)):
        # A lot with none of those ahead in it has only lots within that can be drawn.
        if not any(set(less) <= set(lot) for less in found) and not own_planar(alone(graph, lot)):
            found.add(lot)
    return found


def all_clumps(graph):
    """All clumps of a small graph: each knot is put to one of five or six lots, or to none."""
    found = set()
    for many, word in ((5, "five"), (6, "six")):
        for put in product(range(many + 1), repeat=graph.many):
            lots = [tuple(knot for knot in range(graph.many) if put[knot] == at) for at in range(many)]
            sides = (tuple(lots),) if many == 5 else (tuple(lots[:3]), tuple(lots[3:]))
            # Told in just one sequence; all others are wrong anyhow.
            if all(lots) and all(side == tuple(sorted(side)) for side in sides) and min(sides) == sides[0]:
                value = (word, *sides)
                if own_are_clumps(graph, value):
                    found.add(value)
    return found


def own_grown(graph, clumps, value):
    """Whether the value is clumps by the words of [7.5]."""
    if value[0] != clumps[0] or not own_are_clumps(graph, value):
        return False
    knots = sorted(knot for side in value[1:] for clump in side for knot in clump)
    piece = next(lot for lot in own_pieces(graph) if clumps[1][0][0] in lot)
    place = {clump: [(at, wider) for at, side in enumerate(value[1:]) for wider in side if set(clump) <= set(wider)]
             for side in clumps[1:] for clump in side}
    sides = {tuple({place[clump][0][0] for clump in side}) for side in clumps[1:]}
    return (knots == list(piece) and all(len(found) == 1 for found in place.values())
            and len({found[0] for found in place.values()}) == len(place)
            and len(sides) == len(clumps[1:]) and all(len(side) == 1 for side in sides))


def split(graph, knot):
    """The graph in which a knot is parted into two with a line between them, and its lines are dealt to both."""
    lines = [(min(pair), max(pair)) for pair in
             [[graph.many if end == knot and CHANCE.randrange(2) else end for end in ends] for ends in graph.lines]]
    return Graph(graph.many + 1, tuple(lines) + ((knot, graph.many),))


def split_clumps(word):
    """A graph whose clumps come of five or of six knots by parting them, and these clumps."""
    graph, lots = (FIVE, {k: [k] for k in range(5)}) if word == "five" else (CUBIC, {k: [k] for k in range(6)})
    for _ in range(CHANCE.randint(1, 6)):
        at = CHANCE.choice(sorted(lots))
        lots[at].append(graph.many)
        graph = split(graph, CHANCE.choice(lots[at][:-1]))
    clumps = [tuple(sorted(lots[at])) for at in sorted(lots)]
    return graph, (word, tuple(clumps)) if word == "five" else (word, tuple(clumps[:3]), tuple(clumps[3:]))


def knots_in(clumps):
    """All knots of clumps."""
    return {knot for side in clumps[1:] for clump in side for knot in clump}


def knots_of_bar(graph, bar):
    """All knots at lines of a bar."""
    return {knot for line in own_bar_lines(bar) for knot in graph.lines[line]}


def wrong_bars(graph, bar):
    """Values that are like a bar; some of them may be one."""
    word, *lots, ways = bar
    found = [list(bar), bar[:-1], (*bar, ways), (*bar[:-1], list(ways)), (word, *lots, ways[:-1]), (word, *lots, ways + ways[:1]),
             (word, *lots, ways[::-1]), (word, *lots[::-1], ways), ("six" if word == "five" else "five", *lots, ways),
             (word, *[lot[::-1] for lot in lots], ways), (word, *[list(lot) for lot in lots], ways), (bar,), (word, lots, ways),
             (word, *[lot[:-1] for lot in lots], ways), (word, *[lot[:-1] + (LONG,) for lot in lots], ways),
             (word, *[lot[:-1] + (True,) for lot in lots], ways), (word, *[lot[1:] + lot[:1] for lot in lots], ways)]
    for at, way in enumerate(ways):
        one = graph.lines[way[0]][0]
        for worse in (way[::-1], way[1:], way + way, list(way), (*way, -1), way[:-1] + (len(graph.lines),), (True,), (), None,
                      ways[at - 1], way[0], *list(own_ways(graph, one, (one + 1) % graph.many))[:2]):
            found.append((word, *lots, (*ways[:at], worse, *ways[at + 1:])))
        found.append((word, *lots, (*ways[:at], *ways[at + 1:], way)))
    return found


def told_anew(graph, bar, order):
    """The bar with its branches in another sequence, and its ways as these ask for them, where there are some."""
    if bar[0] == "five":
        lots, pairs = (order,), [(order[i], order[j]) for i, j in combinations(range(5), 2)]
    else:
        lots, pairs = (order[:3], order[3:]), [(a, b) for a in order[:3] for b in order[3:]]
    walks = {}
    for way in bar[-1]:
        for start in graph.lines[way[0]]:
            walk = own_walk(graph, start, way)
            if walk is not None:
                walks[(start, walk[-1])] = way
                walks[(walk[-1], start)] = way[::-1]
    return (bar[0], *lots, tuple(walks.get(pair, (0,)) for pair in pairs))


def plain(value):
    """Whether a value is of the kinds of a bar throughout, so that its words can be asked."""
    numbers = [*value[1:-1], *value[-1]] if type(value) is tuple and len(value) > 2 and type(value[-1]) is tuple else [None]
    return (all(type(row) is tuple and all(type(n) is int for n in row) for row in numbers)
            and (value[0], len(value)) in (("five", 3), ("six", 4)))


class Examples(unittest.TestCase):
    def test_examples(self):
        self.assertEqual([is_bar(CUBIC, CUBE_BAR), bar_lines(CUBIC, CUBE_BAR)[-1],
                          bar_by_lines(CUBIC, tuple(range(9))) == CUBE_BAR, critical_lines(CUBIC, (0, 1, 2))],
                         [True, 8, True, None])
        self.assertEqual([clumps_of(CUBIC, CUBE_BAR), are_clumps(CUBIC, ("five", ((0,), (1,), (2,), (3,), (4,))))],
                         [("six", ((0,), (1,), (2,)), ((3,), (4,), (5,))), False])
        self.assertEqual(caught(Refused, bar_by_lines, CUBIC, (0, 1, 2)).reason, ("spare",))


class Bars(unittest.TestCase):
    def test_the_judge_takes_every_bar(self):
        counts = []
        for graph in SMALL:
            found = own_bars(graph)
            counts.append(len(found))
            for bar in found:
                self.assertTrue(own_is_bar(graph, bar))
                self.assertIs(is_bar(graph, bar), True)
                self.assertEqual(bar_lines(graph, bar), own_bar_lines(bar))
        self.assertEqual((counts[:2], counts[6:]), ([1, 1], [0, 0]))
        self.assertGreater(min(counts[2:6]), 0)
        self.assertEqual(len(own_bars(TWICE_FIVE)), 2)
        self.assertEqual(len(own_bars(complete(6))), 6 * 11 + 10)
        self.assertTrue(all(is_bar(complete(6), bar) for bar in own_bars(complete(6))))

    def test_and_no_other_value(self):
        judged = set()
        for graph in [*SMALL[:6], *HIDDEN[:16], PETERSEN]:
            for bar in (own_bars(graph)[:4] if graph in SMALL else [turning_or_bar(graph)]):
                for value in wrong_bars(graph, bar):
                    wanted = plain(value) and own_is_bar(graph, value)
                    judged.add(wanted)
                    self.assertIs(is_bar(graph, value), wanted, (graph.lines, value))
        self.assertEqual(judged, {True, False})
        self.assertIs(is_bar(FIVE, ("five", (0, 1, 2, 3, 4), ((False,), *FIVE_BAR[2][1:]))), False)
        self.assertIs(is_bar(CUBIC, ("six", (3, 4, 5), (0, 1, 2), tuple((k,) for k in (0, 3, 6, 1, 4, 7, 2, 5, 8)))), False)
        self.assertIs(is_bar(CUBIC, ("five", (0, 1, 2, 3, 4), ((0,),) * 10)), False)
        self.assertIs(is_bar(CUBIC, ("six", (0, 1, 2), (3, 4, 5), CUBE_BAR[3], ())), False)

    def test_branches_in_another_sequence_or_of_other_numbers(self):
        for graph in [*SMALL[:6], complete(6), Graph(6, tuple((a, b) for a, b in combinations(range(6), 2) if a % 2 != b % 2))]:
            for bar in own_bars(graph)[:12]:
                values = {tuple(order) for order in permutations(bar[1] if bar[0] == "five" else bar[1] + bar[2])}
                for order in values:
                    value = told_anew(graph, bar, order)
                    self.assertIs(is_bar(graph, value), value == bar, value)
        wide = Graph(7, tuple((a, b) for a in range(3) for b in range(3, 7)))
        ways = tuple((line,) for line in range(12))
        self.assertIs(is_bar(wide, ("six", (0, 1, 2), (3, 4, 5, 6), ways)), False)
        tall = Graph(7, tuple((a, b) for a in range(4) for b in range(4, 7)))
        self.assertIs(is_bar(tall, ("six", (0, 1, 2, 3), (4, 5, 6), ways)), False)
        self.assertIs(is_bar(CUBIC, ("six", (0, 1), (3, 4, 5), CUBE_BAR[3][:6])), False)
        self.assertIs(is_bar(CUBIC, ("six", (0, 1, 2), (3, 4), tuple((k,) for k in (0, 1, 3, 4, 6, 7)))), False)
        self.assertIs(is_bar(FOUR, ("five", (0, 1, 2, 3), tuple((k,) for k in range(6)))), False)
        self.assertIs(is_bar(complete(6), ("five", (0, 1, 2, 3, 4, 5), tuple((k,) for k in range(15)))), False)

    def test_ways_that_meet(self):
        # A bar of six with a knot that two ways have within; a line between two branches is no way through a third.
        meet = Graph(7, CUBIC.lines[2:] + ((0, 6), (3, 6), (4, 6)))
        ways = ((7, 8), (7, 9)) + tuple((k,) for k in range(7))
        self.assertIs(is_bar(meet, ("six", (0, 1, 2), (3, 4, 5), ways)), False)
        through = Graph(6, CUBIC.lines[1:] + ((0, 1),))
        self.assertIs(is_bar(through, ("six", (0, 1, 2), (3, 4, 5), ((8, 2),) + tuple((k,) for k in range(8)))), False)
        five = Graph(5, FIVE.lines[1:])
        self.assertIs(is_bar(five, ("five", (0, 1, 2, 3, 4), ((0, 3),) + tuple((k,) for k in range(9)))), False)

    def test_sixteen_knots_and_twenty_four_lines(self):
        self.assertTrue(own_is_bar(LADDER, turning_or_bar(LADDER)))
        graph = CUBIC
        while graph.many < 16:
            graph = longer(CHANCE, graph)
        self.assertEqual(len(graph.lines), 19)
        bar = bar_by_lines(graph, tuple(range(19)))
        self.assertTrue(own_is_bar(graph, bar) and own_bar_lines(bar) == tuple(range(19)))
        graph = Graph(16, graph.lines + tuple(CHANCE.choice(graph.lines) for _ in range(5)))
        self.assertTrue(own_is_bar(graph, turning_or_bar(graph)))
        self.assertIs(is_bar(graph, bar), True)


class TheyBar(unittest.TestCase):
    def test_no_turning_draws_a_graph_with_a_bar(self):
        self.assertFalse(any(is_drawn(CUBIC, turning) for turning in all_turnings(CUBIC)))
        self.assertFalse(any(is_drawn(FIVE, turning) for turning in all_turnings(FIVE)))
        for graph in [*SMALL[2:6], *HIDDEN]:
            for _ in range(20):
                turning = random_turning(CHANCE, graph)
                self.assertTrue(any(own_handles(graph, turning)))
                self.assertIs(is_drawn(graph, turning), False)

    def test_a_graph_without_one_is_drawn(self):
        kinds = set()
        for graph in [*small_graphs(60, seed=12, knots=6, lines=11), *SMALL]:
            if graph.many <= 6 and len(graph.lines) <= 11:
                kinds.add(own_bars(graph) == [])
                self.assertEqual(own_bars(graph) == [], is_planar(graph))
        self.assertEqual(kinds, {True, False})


class Critical(unittest.TestCase):
    def test_critical_lots_are_the_lots_of_lines_of_bars(self):
        for graph in (CUBIC, FIVE, TWICE_FIVE, MORE_FIVE, Graph(6, CUBIC.lines + ((3, 4), (0, 3)))):
            wanted = own_critical_lots(graph)
            self.assertEqual(wanted, {own_bar_lines(bar) for bar in own_bars(graph)})
            for lot in all_picks(len(graph.lines)):
                if lot:
                    self.assertIs(is_critical(graph, lot), lot in wanted)
        self.assertEqual(len(own_critical_lots(TWICE_FIVE)), 2)

    def test_any_critical_lot(self):
        for graph in SMALL:
            wanted = {own_bar_lines(bar) for bar in own_bars(graph)}
            for lot in [lot for lot in all_picks(len(graph.lines)) if len(lot) > 7]:
                within = [found for found in wanted if set(found) <= set(lot)]
                found = critical_lines(graph, lot)
                self.assertTrue(found in within if within else found is None, (graph.lines, lot))

    def test_in_hidden_graphs(self):
        for graph in HIDDEN:
            lines = tuple(range(len(graph.lines)))
            found = critical_lines(graph, lines)
            self.assertIs(is_critical(graph, found), True)
            self.assertFalse(is_planar(alone(graph, found)))
            for line in found:
                less = tuple(other for other in found if other != line)
                self.assertTrue(is_planar(alone(graph, less)))
                self.assertIs(is_critical(graph, less), False)
                self.assertIsNone(critical_lines(graph, less))
            for line in lines:
                if line not in found:
                    self.assertIs(is_critical(graph, tuple(sorted((*found, line)))), False)
            bar = bar_by_lines(graph, found)
            self.assertTrue(own_is_bar(graph, bar) and own_bar_lines(bar) == found)
            some = tuple(line for line in lines if CHANCE.randrange(3))
            part = critical_lines(graph, some or (0,))
            self.assertEqual(part is None, is_planar(alone(graph, some)))
            self.assertTrue(part is None or set(part) <= set(some))

    def test_bars_by_lines(self):
        for graph in [*SMALL[:6], complete(6)]:
            for bar in own_bars(graph):
                self.assertEqual(bar_by_lines(graph, own_bar_lines(bar)), bar)
        for graph in SMALL[:5]:
            wanted = {own_bar_lines(bar) for bar in own_bars(graph)}
            for lot in all_picks(len(graph.lines)):
                if lot and lot not in wanted:
                    self.assertEqual(caught(Refused, bar_by_lines, graph, lot).reason, ("spare",))

    def test_lines_to_spare(self):
        # A circle, a loose line, a longer end, a second bar beside the bar.
        for more in (ring(3), ring(2), Graph(2, ((0, 1),)), Graph(3, ((0, 1), (1, 2))), CUBIC):
            for graph in (glued(CUBIC, more, []), glued(CUBIC, more, [0]), glued(longer(CHANCE, CUBIC), more, [6])):
                every = tuple(range(len(graph.lines)))
                self.assertIs(is_critical(graph, every), False)
                self.assertEqual(caught(Refused, bar_by_lines, graph, every).reason, ("spare",))
                self.assertIs(is_critical(graph, critical_lines(graph, every)), True)
        prism = Graph(6, ((0, 1), (0, 2), (1, 2), (3, 4), (3, 5), (4, 5), (0, 3), (1, 4), (2, 5)))
        self.assertIs(is_critical(prism, tuple(range(9))), False)
        self.assertIs(is_critical(BUNDLE, tuple(range(24))), False)
        twice = Graph(5, FIVE.lines[1:] + ((2, 3),))
        self.assertIs(is_critical(twice, tuple(range(10))), False)


class Clumps(unittest.TestCase):
    def test_the_judge_takes_all_clumps(self):
        for graph in (CUBIC, FIVE, MORE_FIVE, Graph(6, CUBIC.lines + ((3, 4), (0, 1)))):
            found = all_clumps(graph)
            self.assertTrue(found)
            for value in found:
                self.assertIs(are_clumps(graph, value), True)
        for word in ("five", "six") * 15:
            graph, value = split_clumps(word)
            self.assertTrue(own_are_clumps(graph, value))
            self.assertIs(are_clumps(graph, value), True)

    def test_and_no_other_value(self):
        judged = set()
        for word in ("five", "six") * 15:
            graph, value = split_clumps(word)
            sides = value[1:]
            wrong = [(word, *sides[::-1]), (word, *[side[::-1] for side in sides]), (word, *[side[1:] for side in sides]),
                     (word, *[side[1:] + side[:1] for side in sides]), (word, *[side[:2] + side[1:] for side in sides]),
                     (word, *sides, ()), ("six" if word == "five" else "five", *sides)]
            for at, side in enumerate(sides):
                for k, clump in enumerate(side):
                    for worse in (clump[1:], clump[:-1], clump[::-1], clump + clump[-1:], clump + (graph.many,),
                                  clump + (graph.many - 1,), tuple(sorted(set(clump) | {graph.many - 1})), (0,), (), (-1,)):
                        wider = (*side[:k], worse, *side[k + 1:])
                        wrong.append((word, *sides[:at], wider, *sides[at + 1:]))
                        wrong.append((word, *sides[:at], tuple(sorted(wider)), *sides[at + 1:]))
            for more in wrong:
                fits = all(0 <= knot < graph.many for knot in knots_in(more)) and knots_in(more) != set()
                wanted = fits and (more[0], len(more)) in (("five", 2), ("six", 3)) and own_are_clumps(graph, more)
                judged.add(wanted)
                self.assertIs(are_clumps(graph, more), wanted, (graph.lines, more))
            for more in (list(value), (word, *[list(side) for side in sides]), (value,), (word,), (word, *sides, None), word,
                         (word, *[tuple(list(clump) for clump in side) for side in sides]), (list(word), *sides)):
                self.assertIs(are_clumps(graph, more), False)
            for line in range(len(graph.lines)):
                less = Graph(graph.many, graph.lines[:line] + graph.lines[line + 1:])
                self.assertIs(are_clumps(less, value), own_are_clumps(less, value))
        self.assertEqual(judged, {True, False})
        for value in (("five", ((0,), (True,), (2,), (3,), (4,))), ("five", ((False,), (1,), (2,), (3,), (4,))),
                      ("five", ((0,), (1,), (2,), (3,))), ("five", ((0,), (1,), (2,), (3,), (4,)), ()),
                      ("five", ((0,), (1,), (2,), (3,), (3, 4))), ("five", ((0,), (1,), (2,), (4,), (3,)))):
            self.assertIs(are_clumps(FIVE, value), False)
        wide = Graph(7, tuple((a, b) for a in range(3) for b in range(3, 7)))
        singles = tuple((knot,) for knot in range(7))
        for value in (("six", singles[:3], singles[3:]), ("six", singles[:2], singles[3:6]), ("six", singles[:3], singles[3:5])):
            self.assertIs(are_clumps(wide, value), False)
        tall = Graph(7, tuple((a, b) for a in range(4) for b in range(4, 7)))
        self.assertIs(are_clumps(tall, ("six", singles[:4], singles[4:])), False)
        self.assertIs(are_clumps(complete(6), ("five", singles[:6])), False)
        self.assertIs(are_clumps(complete(6), ("five", singles[:4])), False)
        self.assertIs(are_clumps(complete(6), ("five", singles[1:6])), True)
        for value in (("six", ((3,), (4,), (5,)), ((0,), (1,), (2,))), ("six", ((0,), (2,), (1,)), ((3,), (4,), (5,))),
                      ("six", ((0,), (1,), (3,)), ((2,), (4,), (5,))), ("six", ((0,), (1,), (2,)), ((3,), (4,)))):
            self.assertIs(are_clumps(CUBIC, value), False)

    def test_clumps_exactly_if_there_is_a_bar(self):
        kinds = set()
        for graph in [FOUR, CUBIC, MORE_FIVE, *small_graphs(30, seed=14, knots=6, lines=12)]:
            if len(graph.lines) >= 7:
                kinds.add(is_planar(graph))
                self.assertEqual(all_clumps(graph) == set(), is_planar(graph), graph.lines)
        self.assertEqual(kinds, {True, False})

    def test_clumps_of_bars(self):
        for graph in [*SMALL[:6], complete(6), PETERSEN, LADDER, *HIDDEN]:
            bars = own_bars(graph) if graph.many < 7 else [turning_or_bar(graph)]
            for bar in bars:
                found = clumps_of(graph, bar)
                self.assertEqual(found[0], bar[0])
                self.assertTrue(own_are_clumps(graph, found))
                self.assertIs(are_clumps(graph, found), True)
                branches = {knot for lot in bar[1:-1] for knot in lot}
                for side in found[1:]:
                    for clump in side:
                        self.assertEqual(len(branches & set(clump)), 1)
                        self.assertTrue(set(clump) <= knots_of_bar(graph, bar))

    def test_the_least_knot_may_change_sides(self):
        # Within a way of the branch 1 to 4 lies the knot 0; the clump with it is among the ones, wherever it goes.
        graph = Graph(7, ((1, 5), (1, 6), (2, 4), (2, 5), (2, 6), (3, 4), (3, 5), (3, 6), (0, 1), (0, 4)))
        bar = bar_by_lines(graph, tuple(range(10)))
        self.assertEqual(bar[1:3], ((1, 2, 3), (4, 5, 6)))
        self.assertTrue(own_are_clumps(graph, clumps_of(graph, bar)))
        turned = Graph(7, ((1, 6), (2, 5), (1, 5), (3, 5), (2, 4), (3, 4), (2, 6), (3, 6), (0, 4), (0, 1)))
        for clumps in (("six", ((0, 1), (2,), (3,)), ((4,), (5,), (6,))), ("six", ((0, 4), (5,), (6,)), ((1,), (2,), (3,)))):
            for one in (graph, turned):
                self.assertTrue(own_are_clumps(one, clumps) and are_clumps(one, clumps))
                self.assertTrue(own_is_bar(one, bar_by_clumps(one, clumps)))
        self.assertIs(are_clumps(graph, ("six", ((1,), (2,), (3,)), ((0, 4), (5,), (6,)))), False)


class BarsByClumps(unittest.TestCase):
    def check(self, graph, clumps):
        """The word of the bar that comes of the clumps; all of its knots are in them."""
        self.assertIs(are_clumps(graph, clumps), True)
        bar = bar_by_clumps(graph, clumps)
        self.assertTrue(own_is_bar(graph, bar))
        self.assertIs(is_bar(graph, bar), True)
        self.assertTrue(knots_of_bar(graph, bar) <= knots_in(clumps))
        return bar[0]

    def test_all_clumps_of_small_graphs(self):
        for graph in (CUBIC, FIVE, MORE_FIVE, Graph(6, CUBIC.lines + ((3, 4), (0, 1)))):
            for clumps in all_clumps(graph):
                self.check(graph, clumps)

    def test_parted_knots(self):
        words = []
        for word in ("five", "six") * 40:
            graph, clumps = split_clumps(word)
            words.append((word, self.check(graph, clumps)))
            # Further knots and lines that are in no clump, and lines between the clumps.
            wider = glued(graph, ring(3), [CHANCE.randrange(graph.many)])
            if len(wider.lines) <= 24:
                more = tuple(tuple(sorted(CHANCE.sample(range(wider.many), 2))) for _ in range(24 - len(wider.lines)))
                self.check(*renamed_with(Graph(wider.many, wider.lines + more), clumps))
        self.assertEqual(set(words), {("five", "five"), ("five", "six"), ("six", "six")})

    def test_clumps_of_five_whose_bar_is_one_of_six(self):
        for _ in range(10):
            graph = renamed(CHANCE, PETERSEN)
            self.assertEqual(turning_or_bar(graph)[0], "six")
        self.assertIs(are_clumps(PETERSEN, SPOKES), True)
        self.assertEqual(self.check(PETERSEN, SPOKES), "six")
        # Two and two lines by ways from two knots of one clump.
        graph = Graph(6, ((0, 1), (0, 2), (1, 2), (0, 3), (1, 3), (2, 3), (0, 4), (1, 4), (2, 5), (3, 5), (4, 5)))
        self.assertEqual(self.check(graph, ("five", ((0,), (1,), (2,), (3,), (4, 5)))), "six")

    def test_clumps_of_bars_and_grown_ones(self):
        for graph in [LADDER, PETERSEN, *HIDDEN]:
            clumps = clumps_of(graph, turning_or_bar(graph))
            self.check(graph, clumps)
            self.check(graph, grown(graph, clumps))


class Grown(unittest.TestCase):
    def test_grown(self):
        for graph in [*SMALL[:6], LADDER, PETERSEN, *HIDDEN]:
            clumps = clumps_of(graph, turning_or_bar(graph))
            found = grown(graph, clumps)
            self.assertTrue(own_grown(graph, clumps, found), (graph.lines, clumps, found))
            self.assertIs(are_clumps(graph, found), True)
            self.assertTrue(own_grown(graph, found, grown(graph, found)))
        for word in ("five", "six") * 15:
            graph, clumps = split_clumps(word)
            wider = renamed_with(glued(graph, grown_drawing(CHANCE, 4, 4)[0], [CHANCE.randrange(graph.many)]), clumps)
            self.assertTrue(own_grown(*wider, grown(*wider)))

    def test_the_least_knot_comes_to_the_others(self):
        graph = Graph(8, tuple((a + 2, b + 2) for a, b in CUBIC.lines) + ((1, 5), (0, 1)))
        found = grown(graph, ("six", ((2,), (3,), (4,)), ((5,), (6,), (7,))))
        self.assertEqual(found, ("six", ((0, 1, 5), (6,), (7,)), ((2,), (3,), (4,))))

    def test_other_pieces_are_left_out(self):
        graph = glued(CUBIC, ring(3), [])
        self.assertEqual(grown(graph, SIX_CLUMPS), SIX_CLUMPS)
        path = glued(CUBIC, Graph(8, tuple((k, k + 1) for k in range(7))), [4])
        self.assertEqual(grown(path, SIX_CLUMPS), ("six", ((0,), (1,), (2,)), ((3,), (4, *range(6, 13)), (5,))))
        back = Graph(13, tuple((a + 7, b + 7) for a, b in CUBIC.lines) + tuple((k, k + 1) for k in range(7)))
        named = ("six", ((7,), (8,), (9,)), ((10,), (11,), (12,)))
        self.assertEqual(grown(back, named), ("six", (tuple(range(8)), (8,), (9,)), ((10,), (11,), (12,))))


def renamed_with(graph, clumps):
    """The graph and the clumps with other names of the knots."""
    order = CHANCE.sample(range(graph.many), graph.many)
    named = [tuple(sorted(tuple(sorted(order[knot] for knot in clump)) for clump in side)) for side in clumps[1:]]
    return Graph(graph.many, tuple(tuple(sorted((order[a], order[b]))) for a, b in graph.lines)), (clumps[0], *sorted(named))


class NoneOfTheseIsTrue(unittest.TestCase):
    def test_a_bar_of_five_may_have_more_than_ten_lines(self):
        bar = bar_by_lines(MORE_FIVE, tuple(range(11)))
        self.assertEqual((bar[0], len(bar_lines(MORE_FIVE, bar))), ("five", 11))
        self.assertEqual(bar[2][0], (9, 10))

    def test_clumps_of_five_may_come_without_a_bar_of_five(self):
        self.assertIs(are_clumps(PETERSEN, SPOKES), True)
        self.assertTrue(all(sum(knot in ends for ends in PETERSEN.lines) == 3 for knot in range(10)))

    def test_critical_lots_may_have_unlike_numbers_of_lines(self):
        sizes = {len(lot) for lot in own_critical_lots(MORE_FIVE)} | {len(own_bar_lines(bar)) for bar in own_bars(MORE_CUBIC)}
        self.assertGreater(len(sizes), 1)
        found = {len(own_bar_lines(bar)) for bar in own_bars(MORE_CUBIC)}
        self.assertEqual(found, {9, 10})
        for bar in own_bars(MORE_CUBIC):
            self.assertIs(is_critical(MORE_CUBIC, own_bar_lines(bar)), True)


class WrongArguments(unittest.TestCase):
    GRAPH = {0: (InvalidGraph, NO_GRAPH)}

    def test_no_graph_bar_lines_clumps(self):
        bar = {**self.GRAPH, 1: (InvalidOperation, tuple(value for value in GRAPHLIKE if value is not CUBE_BAR)
                                 + (list(CUBE_BAR), CUBE_BAR[:-1], ("five", *CUBE_BAR[1:]), SIX_CLUMPS,
                                    ("six", (0, 1, 2), (3, 4, 5), CUBE_BAR[3][::-1])))}
        lines = {**self.GRAPH, 1: (InvalidOperation, (*GRAPHLIKE, (), (9,), (1, 0), (0, 0), [0, 1], (0, True), (-1, 0, 1),
                                                      (False,), tuple(range(10)), (0, LONG)))}
        clumps = {**self.GRAPH, 1: (InvalidOperation, (*GRAPHLIKE, list(SIX_CLUMPS), FIVE_CLUMPS, SPOKES, CUBE_BAR[:3],
                                                       ("six", SIX_CLUMPS[2], SIX_CLUMPS[1]), SIX_CLUMPS[:2],
                                                       ("six", ((0,), (1,), (1, 2)), SIX_CLUMPS[2])))}
        every = tuple(range(9))
        for call, good, bad in (
                (is_bar, (CUBIC, None), self.GRAPH), (are_clumps, (CUBIC, None), self.GRAPH),
                (bar_lines, (CUBIC, CUBE_BAR), bar), (clumps_of, (CUBIC, CUBE_BAR), bar),
                (is_critical, (CUBIC, every), lines), (critical_lines, (CUBIC, every), lines),
                (bar_by_lines, (CUBIC, every), lines),
                (bar_by_clumps, (CUBIC, SIX_CLUMPS), clumps), (grown, (CUBIC, SIX_CLUMPS), clumps)):
            check_errors(call, good, bad)

    def test_no_lines_at_all(self):
        for call in (is_critical, critical_lines, bar_by_lines):
            for graph in (BARE, BARES):
                for lines in ((), (0,), None):
                    caught(InvalidOperation, call, graph, lines)

    def test_what_comes_then_is_behind_all_others(self):
        caught(InvalidOperation, bar_by_lines, CUBIC, (2, 1, 0))
        caught(InvalidOperation, bar_by_lines, CUBIC, ())
        for graph, lines in ((CUBIC, (0,)), (CUBIC, tuple(range(8))), (TWICE_FIVE, tuple(range(11))), (GRID, tuple(range(24)))):
            self.assertEqual(caught(Refused, bar_by_lines, graph, lines).reason, ("spare",))

    def test_the_judged_value_is_never_an_error(self):
        for value in GRAPHLIKE:
            for graph in (CUBIC, FIVE, GRID, BARE):
                self.assertIs(is_bar(graph, value), (graph is CUBIC and value is CUBE_BAR) or (graph is FIVE and value is FIVE_BAR))
                self.assertIs(are_clumps(graph, value), False)
            for wrapped in (("five", value), ("six", value, value), ("five", value, value), ("six", value, value, value),
                            ("five", (0, 1, 2, 3, 4), value), ("six", (0, 1, 2), (3, 4, 5), value), ("five", (value,) * 5),
                            ("five", (0, 1, 2, 3, 4), (value,) * 10), ("six", ((0,), (1,), (2,)), value)):
                self.assertIs(is_bar(FIVE, wrapped), False)
                self.assertIs(are_clumps(FIVE, wrapped), False)

    def test_nothing_is_changed_and_equal_calls_return_equal_results(self):
        for graph, bar, clumps in ((CUBIC, CUBE_BAR, SIX_CLUMPS), (FIVE, FIVE_BAR, FIVE_CLUMPS)):
            before = (graph.many, graph.lines)
            every = tuple(range(len(graph.lines)))
            for call, given in ((bar_lines, bar), (clumps_of, bar), (bar_by_clumps, clumps), (grown, clumps),
                                (critical_lines, every), (bar_by_lines, every), (is_critical, every)):
                self.assertEqual(call(graph, given), call(graph, given))
            self.assertEqual((graph.many, graph.lines), before)
            self.assertEqual((clumps_of(graph, bar), grown(graph, clumps), bar_by_clumps(graph, clumps)), (clumps, clumps, bar))
        self.assertEqual(own_walk(FOUR, 0, (0, 3)), [0, 1, 2])
        self.assertEqual(list(combinations(range(5), 2)), list(FIVE.lines))
        self.assertIs(is_bar(FOUR, ("drawn", FLAT)), False)


if __name__ == "__main__":
    unittest.main()
