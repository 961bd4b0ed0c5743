"""Promises [4.1] to [4.6], the words [0.9], the conventions [0.1] to [0.6]: graphs and ways."""

import unittest
from itertools import combinations, permutations, product
from random import Random

from askedapart.errors import (InvalidBits, InvalidBook, InvalidGraph, InvalidNumber, InvalidOperation, Refused)
from askedapart.net import graphs as module
from askedapart.net.graphs import (Graph, book_of, even_count, graph_of, is_even, is_tree, is_two_or_cut, is_way,
                                   is_way_or_apart, lines_at, pieces_of, ring_of, rings_of, tree_of, two_or_cut,
                                   way_or_apart)
from askedapart.say.books import Book, is_paired, pieces
from graph_samples import (BARE, BARES, BUNDLE, CUBIC, FIVE, FOUR, GRAPHLIKE, GRID, KITE, LADDER, NAMED, NO_GRAPH,
                           NO_INDEX, PETERSEN, TWO_RINGS, check_errors, own_even_lots, own_is_way, own_lines_at,
                           own_pieces, own_walk, own_ways, random_graph, renamed, ring, small_graphs)
from samples import (CHAIN, LARGE, LONG, LONGEST, NOTHING, PENTAGRAM, SQUARE, TRIANGLE, all_bits, all_picks, all_tuples,
                     caught, random_paired)

GRAPHS = [*NAMED, *small_graphs(80)]
SMALL = [graph for graph in GRAPHS if len(graph.lines) <= 7 and graph.many <= 6]
TREE = (0, 1, 3)
BOOKLIKE = tuple(value for value in GRAPHLIKE if not isinstance(value, Book))


def pairs_in(graph):
    """All pairs of unlike knots, in both sequences."""
    return list(permutations(range(graph.many), 2))


def own_is_tree(graph, lot):
    """By the words of [4.3]: one way between each two knots of a piece, and only there."""
    alone = Graph(graph.many, tuple(graph.lines[line] for line in lot))
    return own_pieces(alone) == own_pieces(graph) and all(len(own_ways(alone, a, b)) <= 1 for a, b in pairs_in(graph))


def own_are_two(graph, one, other, way, more):
    """By the words of [4.5]."""
    if not own_is_way(graph, one, other, way) or not own_is_way(graph, one, other, more):
        return False
    inner = set(own_walk(graph, one, way)[1:-1]) & set(own_walk(graph, one, more)[1:-1])
    return not inner and not set(way) & set(more)


def own_is_cut(graph, one, other, line, knot, lot):
    """By the words of [4.5], for numbers or None."""
    if (line is not None and knot is not None) or knot in (one, other) or knot in lot:
        return False
    if (line is not None and not 0 <= line < len(graph.lines)) or (knot is not None and not 0 <= knot < graph.many):
        return False
    if one not in lot or other in lot or list(lot) != sorted(set(lot)) or not set(lot) <= set(range(graph.many)):
        return False
    return all(at == line or knot in ends for at, ends in enumerate(graph.lines) if len(set(ends) & set(lot)) == 1)


def own_sum(lots):
    """What is in an odd number of the lots."""
    every = [line for lot in lots for line in lot]
    return tuple(sorted({line for line in every if every.count(line) % 2}))


class Examples(unittest.TestCase):
    def test_examples(self):
        self.assertEqual([pieces_of(KITE), lines_at(KITE, 2), ring_of(KITE, (0, 1, 3), 2),
                          rings_of(KITE, (0, 1, 3), (1, 2, 4)), even_count(KITE)],
                         [((0, 1, 2, 3), (4,)), (1, 2, 3), (0, 1, 2), (2, 4), 4])
        self.assertEqual([is_two_or_cut(KITE, 0, 3, ("cut", None, 2, (0, 1))),
                          is_two_or_cut(KITE, 0, 1, ("ways", (0,), (4,))), way_or_apart(KITE, 4, 0)],
                         [True, True, ("apart", (4,))])

    def test_constants(self):
        self.assertEqual((module.MOST_KNOTS, module.MOST_LINES), (16, 24))


class Graphs(unittest.TestCase):
    def test_what_a_graph_keeps(self):
        for graph in GRAPHS:
            again = Graph(graph.many, graph.lines)
            self.assertEqual((again.many, again.lines), (graph.many, graph.lines))
            self.assertIs(type(graph.lines), tuple)
            self.assertEqual(str(again), f"graph of {graph.many} knots, {len(graph.lines)} lines")
        self.assertEqual(str(FOUR), "graph of 4 knots, 6 lines")
        self.assertEqual(str(BARE), "graph of 1 knots, 0 lines")

    def test_edges(self):
        for many, lines in ((1, ()), (16, ()), (2, ((0, 1),) * 24), (16, ((14, 15),) * 24), (16, ((0, 15),))):
            self.assertEqual((Graph(many, lines).many, Graph(many, lines).lines), (many, lines))
        self.assertEqual([(graph.many, len(graph.lines)) for graph in (GRID, LADDER, BUNDLE)], [(16, 24)] * 3)

    def test_equal(self):
        again = Graph(5, ((0, 1), (0, 2), (1, 2), (2, 3), (0, 1)))
        self.assertTrue(again == KITE and not again != KITE and again is not KITE)
        for other in (FOUR, Graph(6, KITE.lines), Graph(5, KITE.lines[::-1]), Graph(5, KITE.lines[1:]), BARE):
            self.assertTrue(other != KITE and not other == KITE)
        for value in (*NO_GRAPH, (5, KITE.lines), str(KITE), 1.5, Book):
            self.assertIs(KITE == value, False)
            self.assertIs(KITE != value, True)
            self.assertIs(value == KITE, False)
        self.assertIn(KITE, (None, TRIANGLE, again))
        self.assertNotIn(KITE, (None, TRIANGLE, FOUR, KITE.lines))

    def test_graphs_do_not_change_and_cannot_be_iterated_over(self):
        for name, value in (("many", 4), ("lines", ())):
            with self.assertRaises(AttributeError):
                setattr(KITE, name, value)
        for call in (iter, list, tuple):
            with self.assertRaises(TypeError):
                call(KITE)
        for method in ("__init__", "__eq__", "__str__", "many", "lines"):
            self.assertIn(method, vars(Graph))

    def test_wrong_number(self):
        for many in (0, -1, 17, True, False, None, "2", "", (), (2,), [2], {}, LONG, LONGEST, -LONG, FOUR, SQUARE):
            caught(InvalidGraph, Graph, many, ())
            caught(InvalidGraph, Graph, many, ((0, 1),))
            caught(InvalidGraph, Graph, many, None)

    def test_wrong_lines(self):
        for value in GRAPHLIKE:
            if value != ():
                caught(InvalidGraph, Graph, 3, value)
            if value != (0, 2):
                caught(InvalidGraph, Graph, 3, ((0, 1), value))
            if type(value) is not int or value not in (0, 1):
                caught(InvalidGraph, Graph, 3, ((value, 2),))
            if type(value) is not int or value not in (1, 2):
                caught(InvalidGraph, Graph, 3, ((0, value),))
        for line in ((1, 0), (1, 1), (0, 3), (-1, 0), (0, True), (False, 1), (False, True), [0, 1], (0,), (0, 1, 2), "01",
                     {0: 1}, (0, LONG), (None, 1), ((0,), 1)):
            caught(InvalidGraph, Graph, 3, (line,))
            caught(InvalidGraph, Graph, 3, ((0, 1), line, (0, 2)))
        caught(InvalidGraph, Graph, 3, [(0, 1)])
        caught(InvalidGraph, Graph, 2, ((0, 1),) * 25)
        caught(InvalidGraph, Graph, 1, ((0, 1),))


class OfBooks(unittest.TestCase):
    def test_graphs_of_books(self):
        chance = Random(3)
        for book in [SQUARE, PENTAGRAM, TRIANGLE, LARGE, *[random_paired(chance, 9, 14) for _ in range(40)]]:
            graph = graph_of(book)
            self.assertEqual((graph.many, len(graph.lines)), (len(book.sayings), book.many))
            for e, line in enumerate(graph.lines):
                self.assertEqual([s for s, (members, _) in enumerate(book.sayings) if e in members], list(line))
            self.assertEqual(pieces_of(graph), pieces(book))
            bits = tuple(bit for _, bit in book.sayings)
            self.assertEqual(book_of(graph, bits), book)
        self.assertEqual(graph_of(PENTAGRAM), FIVE)
        self.assertEqual(graph_of(SQUARE).lines, ((0, 3), (0, 4), (0, 5), (1, 3), (1, 4), (1, 5), (2, 3), (2, 4), (2, 5)))

    def test_books_of_graphs(self):
        chance = Random(4)
        for graph in GRAPHS + [random_graph(chance, 16, 24) for _ in range(20)]:
            bits = tuple(chance.randrange(2) for _ in range(graph.many))
            wrong = [knot for knot in range(graph.many) if not 1 <= len(own_lines_at(graph, knot)) <= 8]
            if wrong:
                self.assertEqual(caught(Refused, book_of, graph, bits).reason, ("lines", wrong[0]))
                continue
            book = book_of(graph, bits)
            self.assertIs(is_paired(book), True)
            self.assertEqual(book.sayings, tuple((tuple(own_lines_at(graph, knot)), bits[knot])
                                                 for knot in range(graph.many)))
            self.assertEqual(graph_of(book), graph)

    def test_knots_with_no_line_or_more_than_eight(self):
        eight = Graph(2, ((0, 1),) * 8)
        self.assertEqual(book_of(eight, (0, 1)).sayings, ((tuple(range(8)), 0), (tuple(range(8)), 1)))
        for graph, knot in ((Graph(2, ((0, 1),) * 9), 0), (BARE, 0), (BUNDLE, 0), (KITE, 4), (Graph(3, ((1, 2),)), 0),
                            (Graph(3, ((0, 2),) * 8 + ((1, 2),)), 2), (Graph(4, ((0, 2),) * 8 + ((1, 2),)), 2)):
            self.assertEqual(caught(Refused, book_of, graph, (0,) * graph.many).reason, ("lines", knot))

    def test_books_that_are_not_paired(self):
        for book in (CHAIN, Book(1, (((0,), 0),)), Book(1, (((0,), 0),) * 3)):
            self.assertEqual(caught(Refused, graph_of, book).reason, ("pairs",))


class Ways(unittest.TestCase):
    def test_lines_and_pieces(self):
        for graph in GRAPHS:
            self.assertEqual(pieces_of(graph), own_pieces(graph))
            for knot in range(graph.many):
                self.assertEqual(lines_at(graph, knot), tuple(own_lines_at(graph, knot)))
        self.assertEqual(pieces_of(BARES), tuple((knot,) for knot in range(16)))
        self.assertEqual(pieces_of(BUNDLE)[3:5], ((3, 11), (4,)))
        self.assertEqual((pieces_of(GRID), lines_at(BARE, 0)), ((tuple(range(16)),), ()))

    def test_the_judge_of_ways_takes_every_way_and_no_other_value(self):
        for graph in [*SMALL[:25], KITE]:
            values = [row for row in all_tuples(min(len(graph.lines), 5), 4)]
            for one, other in pairs_in(graph):
                ways = own_ways(graph, one, other)
                for value in values:
                    self.assertIs(is_way(graph, one, other, value), value in ways)
                for value in ways:
                    self.assertIs(is_way(graph, one, other, value), True)
                    for wrong in (list(value), value[1:], value + value[-1:], value[:-1], (*value, -1), (value,)):
                        self.assertIs(is_way(graph, one, other, wrong), False)
        self.assertIs(is_way(FOUR, 0, 1, (False,)), False)
        self.assertIs(is_way(FOUR, 0, 2, (True,)), False)
        self.assertIs(is_way(FOUR, 0, 3, (0, 1, 5)), False)

    def test_long_ways(self):
        path = Graph(16, tuple((k, k + 1) for k in range(15)))
        self.assertIs(is_way(path, 0, 15, tuple(range(15))), True)
        self.assertIs(is_way(path, 15, 0, tuple(range(14, -1, -1))), True)
        self.assertIs(is_way(path, 15, 0, tuple(range(15))), False)
        self.assertEqual(way_or_apart(path, 15, 0), ("way", tuple(range(14, -1, -1))))

    def test_way_or_apart(self):
        for graph in GRAPHS:
            for one, other in pairs_in(graph)[:40]:
                word, found = way_or_apart(graph, one, other)
                self.assertIs(is_way_or_apart(graph, one, other, (word, found)), True)
                piece = next(lot for lot in own_pieces(graph) if one in lot)
                self.assertEqual(word, "way" if other in piece else "apart")
                if word == "way":
                    self.assertTrue(own_is_way(graph, one, other, found))
                else:
                    self.assertTrue(set(piece) <= set(found) and other not in found)

    def test_the_judge_takes_every_way_or_lot_and_no_other_value(self):
        for graph in [*SMALL[:40], KITE, TWO_RINGS]:
            lots = all_picks(graph.many) + [(1, 0), (0, 0), (-1, 0), (0, graph.many), tuple(range(graph.many + 1))]
            for one, other in pairs_in(graph):
                for way in list(own_ways(graph, one, other)) + [(), (-1,), (len(graph.lines),)]:
                    self.assertIs(is_way_or_apart(graph, one, other, ("way", way)), own_is_way(graph, one, other, way))
                    self.assertIs(is_way_or_apart(graph, one, other, ("apart", way)),
                                  own_is_cut(graph, one, other, None, None, way))
                for lot in lots:
                    right = own_is_cut(graph, one, other, None, None, lot)
                    self.assertIs(is_way_or_apart(graph, one, other, ("apart", lot)), right)
                    self.assertIs(is_way_or_apart(graph, one, other, ("apart", list(lot))), False)
                    self.assertIs(is_way_or_apart(graph, one, other, ("apart", lot, None)), False)
                    self.assertIs(is_way_or_apart(graph, one, other, ["apart", lot]), False)
        # Not only the piece itself is right.
        self.assertIs(is_way_or_apart(BARES, 0, 5, ("apart", (0, 1, 2, 3))), True)
        self.assertIs(is_way_or_apart(BARES, 0, 5, ("apart", (False, 1))), False)

    def test_sixteen_knots(self):
        for graph in (GRID, LADDER, BUNDLE):
            for one, other in pairs_in(graph):
                self.assertIs(is_way_or_apart(graph, one, other, way_or_apart(graph, one, other)), True)


class Trees(unittest.TestCase):
    def test_the_judge_takes_every_tree_and_no_other_lot(self):
        for graph in SMALL:
            trees = [lot for lot in all_picks(len(graph.lines)) if own_is_tree(graph, lot)]
            for lot in all_picks(len(graph.lines)):
                self.assertIs(is_tree(graph, lot), lot in trees)
            self.assertIn(tree_of(graph), trees)
            for tree in trees:
                self.assertEqual(len(tree), graph.many - len(own_pieces(graph)))
                self.assertIs(is_tree(graph, list(tree)), False)
                self.assertIs(is_tree(graph, (*tree, -1)), False)
                if len(tree) > 1:
                    self.assertIs(is_tree(graph, tree[::-1]), False)
        self.assertIs(is_tree(Graph(2, ((0, 1),)), (False,)), False)

    def test_edges(self):
        self.assertEqual((tree_of(BARE), tree_of(BARES), is_tree(BARE, ()), is_tree(BARE, (0,))), ((), (), True, False))
        for graph in NAMED:
            self.assertIs(is_tree(graph, tree_of(graph)), True)
            self.assertEqual(len(tree_of(graph)), graph.many - len(own_pieces(graph)))
        self.assertTrue(all(is_tree(BUNDLE, (line,)) for line in range(24)))

    def test_rings(self):
        for graph in SMALL:
            even = own_even_lots(graph)
            for tree in [lot for lot in all_picks(len(graph.lines)) if own_is_tree(graph, lot)]:
                off = [line for line in range(len(graph.lines)) if line not in tree]
                closed = {}
                for line in off:
                    low, high = graph.lines[line]
                    within = [way for way in own_ways(graph, low, high) if set(way) <= set(tree)]
                    closed[line] = ring_of(graph, tree, line)
                    self.assertEqual([closed[line]], [tuple(sorted((line, *way))) for way in within])
                    self.assertIn(closed[line], even)
                # Each even lot is the sum of the rings of just one lot of lines off the tree.
                sums = {own_sum([closed[line] for line in lot]): lot
                        for size in range(len(off) + 1) for lot in combinations(off, size)}
                self.assertEqual((set(sums), len(sums)), (even, 2 ** len(off)))
                for lot in even:
                    self.assertEqual(rings_of(graph, tree, lot), sums[lot])

    def test_the_line_is_off_the_tree(self):
        for line in TREE:
            caught(InvalidOperation, ring_of, KITE, TREE, line)
        self.assertEqual([ring_of(KITE, TREE, line) for line in (2, 4)], [(0, 1, 2), (0, 4)])


class EvenLots(unittest.TestCase):
    def test_the_judge_takes_every_even_lot_and_no_other_one(self):
        for graph in SMALL:
            even = own_even_lots(graph)
            for lot in all_picks(len(graph.lines)):
                self.assertIs(is_even(graph, lot), lot in even)
                if len(lot) > 1:
                    self.assertIs(is_even(graph, lot[::-1]), False)
                self.assertIs(is_even(graph, list(lot)), False)
            self.assertEqual(even_count(graph), len(even))
            self.assertEqual(even_count(graph), 2 ** (len(graph.lines) - graph.many + len(own_pieces(graph))))

    def test_edges(self):
        self.assertEqual([even_count(graph) for graph in (BARE, BARES, GRID, LADDER, BUNDLE)],
                         [1, 1, 2 ** 9, 2 ** 9, 2 ** 23])
        self.assertIs(is_even(BARE, ()), True)
        self.assertIs(is_even(BUNDLE, tuple(range(24))), True)
        self.assertIs(is_even(BUNDLE, tuple(range(23))), False)
        self.assertIs(is_even(Graph(2, ((0, 1),) * 2), (False, True)), False)
        self.assertIs(is_even(Graph(2, ((0, 1),) * 2), (0, 0)), False)


class TwoWaysOrACut(unittest.TestCase):
    def test_what_is_told(self):
        for graph in GRAPHS:
            for one, other in pairs_in(graph)[:60]:
                found = two_or_cut(graph, one, other)
                self.assertIs(is_two_or_cut(graph, one, other, found), True)
                if found[0] == "ways":
                    self.assertTrue(own_are_two(graph, one, other, *found[1:]), (graph.lines, found))
                else:
                    self.assertTrue(own_is_cut(graph, one, other, *found[1:]), (graph.lines, found))

    def test_either_or(self):
        kinds = set()
        for graph in [*SMALL, *small_graphs(40, seed=8, knots=6, lines=9)]:
            for one, other in pairs_in(graph):
                ways = own_ways(graph, one, other)
                two = any(own_are_two(graph, one, other, *pair) for pair in combinations(ways, 2))
                things = [(None, None), *[(line, None) for line in range(len(graph.lines))],
                          *[(None, knot) for knot in range(graph.many)]]
                cut = any(own_is_cut(graph, one, other, line, knot, lot)
                          for line, knot in things for lot in all_picks(graph.many))
                word = two_or_cut(graph, one, other)[0]
                self.assertEqual((two, cut), (word == "ways", word == "cut"))
                kinds.add(word)
        self.assertEqual(kinds, {"ways", "cut"})

    def test_ways_that_change_over(self):
        # The shortest way stands across both ways, and is in no two of them.
        graph = Graph(6, ((0, 1), (1, 2), (2, 5), (0, 3), (2, 3), (1, 4), (4, 5)))
        self.assertEqual(set(two_or_cut(graph, 0, 5)[1:]), {(0, 5, 6), (3, 4, 2)})
        # The short way is left for good between 0 and 1, and between 4 and 5; in between both go round it.
        ends = ((0, 1), (1, 2), (2, 3), (3, 4), (4, 5), (0, 6), (6, 7), (7, 8), (4, 8), (1, 9), (9, 10), (10, 11), (5, 11))
        self.assertEqual(way_or_apart(Graph(12, ends), 0, 5), ("way", (0, 1, 2, 3, 4)))
        self.assertEqual(set(two_or_cut(Graph(12, ends), 0, 5)[1:]), {(5, 6, 7, 8, 4), (0, 9, 10, 11, 12)})
        self.assertEqual(set(two_or_cut(Graph(12, ends), 5, 0)[1:]), {(4, 8, 7, 6, 5), (12, 11, 10, 9, 0)})
        chance = Random(6)
        for _ in range(60):
            graph = random_graph(chance, 16, 24)
            for one, other in chance.sample(pairs_in(graph), 12):
                found = two_or_cut(graph, one, other)
                right = own_are_two if found[0] == "ways" else own_is_cut
                self.assertTrue(right(graph, one, other, *found[1:]))
        for graph in (GRID, LADDER, PETERSEN, CUBIC, FIVE):
            for one, other in pairs_in(graph):
                found = two_or_cut(graph, one, other)
                self.assertEqual(found[0], "ways")
                self.assertTrue(own_are_two(graph, one, other, *found[1:]))

    def test_the_judge_takes_every_pair_of_ways_and_no_other_one(self):
        for graph in [KITE, FOUR, *SMALL[20:40]]:
            for one, other in pairs_in(graph):
                ways = sorted(own_ways(graph, one, other)) + [(), (0,), (-1,)]
                for way, more in product(ways, ways):
                    self.assertIs(is_two_or_cut(graph, one, other, ("ways", way, more)),
                                  own_are_two(graph, one, other, way, more))
        for value in (("ways", [0], (4,)), ("ways", (0,)), ("ways", (0,), (4,), ()), ("cut", (0,), (4,)),
                      ("ways", (False,), (4,)), ["ways", (0,), (4,)]):
            self.assertIs(is_two_or_cut(KITE, 0, 1, value), False)

    def test_the_judge_takes_every_cut_and_no_other_one(self):
        for graph in [KITE, TWO_RINGS, *[graph for graph in SMALL if graph.many <= 4][:20]]:
            lots = all_picks(graph.many) + [(1, 0), (0, 0), (-1, 0), (0, graph.many)]
            lines, knots = [None, *range(-1, len(graph.lines) + 1)], [None, *range(-1, graph.many + 1)]
            for one, other in pairs_in(graph):
                for line, knot, lot in product(lines, knots, lots):
                    self.assertIs(is_two_or_cut(graph, one, other, ("cut", line, knot, lot)),
                                  own_is_cut(graph, one, other, line, knot, lot))
        for value in (("cut", None, 2, [0, 1]), ("cut", 3, None, (0, 1, 2), ()), ("cut", 2, (0, 1)), ("cut", None, (2,), (0, 1)),
                      ("cut", False, 2, (0, 1)), ("cut", None, 2, (False, True)), ("cut", None, 2, (0, True)),
                      ("ways", None, 2, (0, 1)), ["cut", None, 2, (0, 1)]):
            self.assertIs(is_two_or_cut(KITE, 0, 3, value), False)
        path = Graph(3, ((0, 1), (1, 2)))
        self.assertEqual([is_two_or_cut(path, 0, 2, ("cut", line, None, (0, 1))) for line in (True, 1, False, 0)],
                         [False, True, False, False])

    def test_not_both_a_line_and_a_knot(self):
        # Two ways lead from 0 to 1, one by the line 0, one by the knot 2.
        graph = Graph(3, ((0, 1), (0, 2), (1, 2)))
        self.assertIs(is_two_or_cut(graph, 0, 1, ("cut", 0, 2, (0,))), False)
        self.assertEqual(set(two_or_cut(graph, 0, 1)), {"ways", (0,), (1, 2)})


class NoneOfTheseIsTrue(unittest.TestCase):
    def test_a_line_may_part_two_knots_that_no_knot_parts(self):
        self.assertEqual(two_or_cut(KITE, 3, 2), ("cut", 3, None, (3,)))
        self.assertIs(is_two_or_cut(KITE, 2, 3, ("cut", 3, None, (0, 1, 2))), True)
        self.assertEqual(two_or_cut(Graph(2, ((0, 1),)), 0, 1), ("cut", 0, None, (0,)))

    def test_a_graph_may_have_several_trees(self):
        self.assertEqual([lot for lot in all_picks(3) if is_tree(ring(3), lot)], [(0, 1), (0, 2), (1, 2)])

    def test_an_even_lot_need_not_be_a_ring(self):
        tree = tree_of(TWO_RINGS)
        self.assertIs(is_even(TWO_RINGS, tuple(range(6))), True)
        self.assertEqual(len(rings_of(TWO_RINGS, tree, tuple(range(6)))), 2)


class WrongArguments(unittest.TestCase):
    GRAPH = (InvalidGraph, NO_GRAPH)
    KNOT = (InvalidNumber, (*NO_INDEX, 5, 6))
    LINE = (InvalidNumber, (*NO_INDEX, 6, 7))
    NO_TREE = (InvalidOperation, (*GRAPHLIKE, (), (0, 4, 3), (3, 1, 0), (0, 1, 2), [0, 1, 3], (0, 1), (0, 1, 2, 3), (0, True, 3)))
    EVEN = (InvalidOperation, tuple(value for value in GRAPHLIKE if value != ()) + ((0,), (4, 0), [0, 4], (0, 1, 2, 4)))

    def test_no_graph_knot_tree_line(self):
        for call, good, bad in (
                (lines_at, (KITE, 0), {0: self.GRAPH, 1: self.KNOT}),
                (pieces_of, (KITE,), {0: self.GRAPH}),
                (tree_of, (KITE,), {0: self.GRAPH}),
                (even_count, (KITE,), {0: self.GRAPH}),
                (is_tree, (KITE, None), {0: self.GRAPH}),
                (is_even, (KITE, None), {0: self.GRAPH}),
                (is_way, (KITE, 0, 1, None), {0: self.GRAPH, 1: self.KNOT, 2: self.KNOT}),
                (way_or_apart, (KITE, 0, 1), {0: self.GRAPH, 1: self.KNOT, 2: self.KNOT}),
                (is_way_or_apart, (KITE, 0, 1, None), {0: self.GRAPH, 1: self.KNOT, 2: self.KNOT}),
                (two_or_cut, (KITE, 0, 1), {0: self.GRAPH, 1: self.KNOT, 2: self.KNOT}),
                (is_two_or_cut, (KITE, 0, 1, None), {0: self.GRAPH, 1: self.KNOT, 2: self.KNOT}),
                (ring_of, (KITE, TREE, 2), {0: self.GRAPH, 1: self.NO_TREE, 2: (InvalidNumber, (*NO_INDEX, 5, 6))}),
                (rings_of, (KITE, TREE, (0, 4)), {0: self.GRAPH, 1: self.NO_TREE, 2: self.EVEN})):
            check_errors(call, good, bad)

    def test_books(self):
        check_errors(graph_of, (SQUARE,), {0: (InvalidBook, BOOKLIKE)})
        bits = [value for value in GRAPHLIKE if not (type(value) is tuple and len(value) == 4)]
        bad = (InvalidBits, (*bits, (), (0,) * 3, (0,) * 5, [0] * 4, (0, 0, 0, 2), (0, 0, 0, True), (0, 0, 0, None),
                             (0, 0, 0, -1), (0, 0, 0, LONG), "0000"))
        check_errors(book_of, (FOUR, (0, 0, 0, 1)), {0: self.GRAPH, 1: bad})

    def test_what_comes_then_is_behind_all_others(self):
        caught(InvalidBits, book_of, BARE, ())
        caught(InvalidBits, book_of, BUNDLE, (0,) * 15)
        self.assertEqual(caught(Refused, book_of, KITE, (0,) * 5).reason, ("lines", 4))
        for call, more in ((is_way, (None,)), (way_or_apart, ()), (is_way_or_apart, (None,)), (two_or_cut, ()),
                           (is_two_or_cut, (None,))):
            for knot in range(5):
                caught(InvalidOperation, call, KITE, knot, knot, *more)
            self.assertEqual(caught(InvalidNumber, call, KITE, 5, 5, *more).given, 5)
            self.assertEqual(caught(InvalidNumber, call, KITE, 0, -1, *more).given, -1)
            self.assertIs(caught(InvalidNumber, call, KITE, 1, True, *more).given, True)
            caught(InvalidNumber, call, BARE, 0, 1, *more)
            caught(InvalidOperation, call, BARE, 0, 0, *more)
        self.assertEqual(caught(InvalidNumber, ring_of, KITE, TREE, 5).given, 5)
        caught(InvalidOperation, ring_of, KITE, (0, 1), 5)
        caught(InvalidOperation, ring_of, KITE, TREE, 3)
        caught(InvalidNumber, ring_of, BARE, (), 0)

    def test_the_judged_value_is_never_an_error(self):
        for value in GRAPHLIKE:
            self.assertIs(is_tree(FOUR, value), False)
            self.assertIs(is_even(FOUR, value), value == ())
            for one, other in ((0, 1), (3, 2)):
                self.assertIs(is_way(FOUR, one, other, value), own_is_way(FOUR, one, other, value))
                for call in (is_way_or_apart, is_two_or_cut):
                    self.assertIs(call(FOUR, one, other, value), False)
        for value in NOTHING:
            for word in ("way", "apart", "ways", "cut"):
                for wrapped in ((word, value), (word, value, value), (word, value, None, value), (word, None, value, value)):
                    self.assertIs(is_way_or_apart(KITE, 0, 4, wrapped), wrapped == ("apart", (0, 1, 2, 3)))
                    self.assertIs(is_two_or_cut(KITE, 0, 1, wrapped), False)

    def test_nothing_is_changed_and_equal_calls_return_equal_results(self):
        before = (KITE.many, KITE.lines)
        for call, more in ((tree_of, ()), (two_or_cut, (0, 3)), (way_or_apart, (3, 0)), (pieces_of, ()),
                           (ring_of, (TREE, 4)), (rings_of, (TREE, (0, 4)))):
            self.assertEqual(call(KITE, *more), call(KITE, *more))
        self.assertEqual((KITE.many, KITE.lines), before)
        chance = Random(5)
        self.assertEqual(even_count(renamed(chance, LADDER)), even_count(LADDER))


if __name__ == "__main__":
    unittest.main()
