"""The main statements [0.15] to [0.23]: books and graphs followed through all parts of the program."""

import unittest
from fractions import Fraction
from itertools import combinations
from random import Random

from askedapart.bench.bench import Bench, led_operators
from askedapart.judge.claims import does_take, led_paper, settled
from askedapart.main.answers import answer, is_answer, kinds
from askedapart.main.lesser import book_behind, core_kind, core_or_turning, led_up
from askedapart.main.lifts import few_operators, fewest_qubits, six_or_parting
from askedapart.main.rounds import turning_by, undoing_by
from askedapart.more.odds import number_count, numbers_or_weights
from askedapart.more.picks import do_bar, most_agreeing, outcomes_by, pick_count, pick_or_lot
from askedapart.net.arcs import crossing_pairs, is_odd_table, move_count, moves_or_table, table_of_bar, turned_pairs
from askedapart.net.bars import bar_by_clumps, bar_lines, clumps_of, is_critical
from askedapart.net.graphs import Graph, book_of, graph_of
from askedapart.net.plane import is_planar, turning_or_bar
from askedapart.net.turns import is_drawn
from askedapart.play.games import best_mix, fewest_lost, least_chance, questions
from askedapart.play.pairs import mirrored, pair_outcomes
from askedapart.play.sure import all_chance, can_come, second_chance, sure_or_lost, sure_players
from askedapart.say.books import Book, beside, is_odd, is_paired, pieces, turned, with_bits
from askedapart.say.signs import fewest, sign_count, signs_or_lot
from askedapart.say.undoings import is_undoing, paper_of, put_lot
from askedapart.sign.answers import is_operators_or_bar, operators_by, operators_or_bar, table_count, table_of
from askedapart.sign.tables import rank
from askedapart.text.texts import answer_text, book_text, graph_text, read_answer, read_book, read_graph, read_turning, turning_text
from book_samples import BOTH, WIDER, barred_book, bent, drawn_longer, even_book, hidden, mixed_up, odd_bits, paired_of, planar_book
from graph_samples import CUBIC, FIVE, FOUR, GRID, LADDER, NAMED, OCTAHEDRON, PETERSEN, grown_drawing, own_is_bar, own_planar, renamed, small_graphs, with_hidden_bar
from operator_samples import LETTERS, TEN, own_are_right
from samples import CHAIN, LARGE, PENTAGRAM, SQUARE, TRIANGLE, all_bits, random_paired, small_books

CHANCE = Random(99)
GENERAL = small_books(40, seed=99) + [hidden(CHANCE, CHANCE.randint(1, 4), CHANCE.randint(1, 5), CHANCE.randint(1, 8))[0] for _ in range(15)]
GENERAL += [WIDER, CHAIN, bent(WIDER, 0)]
PAIRED = [random_paired(CHANCE, 8, 14) for _ in range(15)] + [barred_book(CHANCE, drawn=2, more=k % 3) for k in range(6)]
PAIRED += [planar_book(CHANCE, 8, 12)[0] for _ in range(6)] + [even_book(CHANCE, 7, 10), SQUARE, PENTAGRAM, TRIANGLE, BOTH, LARGE, beside(SQUARE, SQUARE),
                                                               mixed_up(CHANCE, beside(PENTAGRAM, bent(TRIANGLE, 0))), drawn_longer(CHANCE, SQUARE, 9), paired_of(LADDER, odd_bits(CHANCE, 16))]
GRAPHS = small_graphs(25, seed=99, knots=6, lines=9) + [graph for graph in NAMED] + [with_hidden_bar(CHANCE, ("five", "six")[k % 2], drawn=3, more=k % 3) for k in range(10)]
GRAPHS += [grown_drawing(CHANCE, 10, 16)[0] for _ in range(8)]


class Books(unittest.TestCase):
    def test_signs_and_odd_lots(self):
        for book in GENERAL + PAIRED:
            word, found = signs_or_lot(book)
            self.assertEqual(word == "signs", sign_count(book) > 0)
            self.assertEqual(pick_or_lot(book)[0], {"signs": "pick", "lot": "lot"}[word])
            self.assertEqual(pick_count(book), sign_count(book))
            if book.many <= 10:
                right = [bits for bits in all_bits(book.many) if all(sum(bits[e] for e in members) % 2 == bit for members, bit in book.sayings)]
                self.assertEqual(sign_count(book), len(right))
            if book.many <= 12 or is_paired(book):
                self.assertEqual(fewest(book) == 0, word == "signs")
                self.assertEqual(fewest_lost(book), fewest(book))

    def test_operators_and_tables(self):
        seen = set()
        for book in GENERAL + PAIRED:
            found = operators_or_bar(book)
            seen.add(found[0])
            self.assertEqual(found[0] == "operators", table_count(book) > 0)
            self.assertIs(is_operators_or_bar(book, found), True)
            self.assertEqual(settled(("operators", book))[0][0], found[0])
            if found[0] == "barred":
                self.assertTrue(is_odd(book, found[1]))
                continue
            right = found[1]
            self.assertTrue(own_are_right(book, right))
            table = table_of(book, right)
            other = operators_by(book, table)
            self.assertTrue(own_are_right(book, other))
            self.assertEqual(len(other[0]) - 1, max(1, rank(book.many, table) // 2))
            self.assertEqual(sure_or_lost(book, sure_players(book, other)), ("sure",))
            self.assertEqual(all_chance(book, sure_players(book, other)), (1, 1))
        self.assertEqual(seen, {"operators", "barred"})

    def test_paired_books(self):
        words = set()
        for book in PAIRED:
            word, found = answer(book)
            words.add(word)
            told = kinds(book)
            self.assertEqual(word, "undoing" if "planar" in told else "operators" if "barred" in told else "signs")
            self.assertEqual(word == "undoing", operators_or_bar(book)[0] == "barred")
            self.assertEqual(word == "signs", signs_or_lot(book)[0] == "signs")
            self.assertIs(is_answer(book, (word, found)), True)
            self.assertEqual(read_answer(book, answer_text(book, (word, found))), (word, found))
            self.assertEqual(read_book(book_text(book)), book)
            odd = [lot for lot in pieces(book) if is_odd(book, lot)]
            self.assertEqual([fewest(book), fewest_lost(book), len(most_agreeing(book)[1])], [len(odd)] * 3)
            claim, paper = settled(("held", book))
            self.assertEqual(claim[0], "undone" if word == "undoing" else "held")
            self.assertIs(does_take(claim, paper), True)
            if word == "undoing":
                lot, pairs, hits = paper_of(book, found)
                self.assertEqual(lot, put_lot(book, found))
                self.assertIs(does_take(("barred", book), (lot, pairs, hits)), True)
                self.assertIs(does_take(("barred", book), led_paper(claim, paper, "barred")), True)
        self.assertEqual(words, {"signs", "operators", "undoing"})

    def test_in_one_piece_with_an_odd_sum(self):
        for book in [book for book in PAIRED if len(pieces(book)) == 1 and is_odd(book, pieces(book)[0])]:
            graph = graph_of(book)
            planar = is_planar(graph)
            self.assertEqual(operators_or_bar(book)[0] == "barred", planar)
            many = len(questions(book))
            self.assertEqual(least_chance(book, best_mix(book)), (many - 1, many))
            word, found = core_or_turning(book)
            self.assertEqual(word == "drawn", planar)
            if planar:
                steps = undoing_by(book, found, 0)
                self.assertTrue(is_undoing(book, steps) and is_drawn(graph, turning_by(book, steps)))
                continue
            core = book_behind(book, found)
            self.assertIn(core_kind(core), ("square", "pentagram"))
            up = led_up(book, found, few_operators(core))
            self.assertTrue(own_are_right(book, up))
            least = fewest_qubits(book)
            self.assertEqual(least == 2, six_or_parting(graph)[0] == "six")
            # A square tells ways that join three with three others: two qubits are enough.
            self.assertTrue(core_kind(core) == "pentagram" or least == 2)
            self.assertTrue(own_are_right(book, few_operators(book)))
            self.assertEqual(len(few_operators(book)[0]) - 1, least)

    def test_one_book_through_all_answers(self):
        for book, right in ((SQUARE, LETTERS), (PENTAGRAM, TEN)):
            self.assertEqual([signs_or_lot(book)[0], answer(book)[0], kinds(book), core_kind(book)], ["lot", "operators", ("barred",), "square" if book is SQUARE else "pentagram"])
            players = sure_players(book, right)
            self.assertEqual([sure_or_lost(book, players), fewest_lost(book), table_count(book)], [("sure",), 1, 1])
            bench, now = Bench(book), right
            for deed in (("turn", 3), ("split", 2, 0, 1), ("split", 0, 3 if book is SQUARE else 1, 0), ("sequence", tuple(range(len(book.sayings) + 1, -1, -1))), ("turn", 0)):
                now = led_operators(bench.book, deed, now)
                bench.do(deed)
            self.assertTrue(own_are_right(bench.book, now))
            self.assertEqual([sure_or_lost(bench.book, sure_players(bench.book, now)), bench.kinds(), bench.answer()[0]], [("sure",), ("barred",), "operators"])
            bench.do(("bit", 0))
            self.assertEqual([bench.kinds(), bench.answer()[0], sign_count(bench.book) > 0], [("even",), "signs", True])
            bench.undo()
            bench.do(("beside", TRIANGLE))
            self.assertEqual([bench.kinds(), bench.answer()[0]], [("barred", "planar"), "undoing"])
            bench.do(("piece", 0))
            self.assertEqual([bench.kinds(), fewest_qubits(bench.book)], [("barred",), 2 if book is SQUARE else 3])
            self.assertIs(does_take(("operators", bench.book), now), True)
            for claim in (("signs", bench.book), ("operators", bench.book), ("held", bench.book), ("core", bench.book), ("planar", graph_of(bench.book))):
                self.assertIs(does_take(*settled(claim)), True)

    def test_players(self):
        for book, right in ((SQUARE, LETTERS), (PENTAGRAM, TEN), (beside(SQUARE, bent(TRIANGLE, 0)), (*LETTERS, "+II", "-II", "+II"))):
            players = sure_players(book, right)
            for s, (members, bit) in enumerate(book.sayings):
                for e in range(book.many):
                    come = can_come(book, players, s, e)
                    found = pair_outcomes(players[0][s], (mirrored(right[e]),))
                    self.assertEqual(come, tuple((bits, told) for bits, (told,) in found))
                    self.assertEqual({bits for bits, _ in come}, set(outcomes_by(book, right, s)))
                    # What the second one tells does not hang on what the first one is asked.
                    self.assertEqual(Fraction(sum(told == 0 for _, told in come), len(come)), Fraction(*second_chance(book, players, e)))
                    if e in members:
                        self.assertTrue(all(sum(bits) % 2 == bit and bits[members.index(e)] == told for bits, told in come))
            some, _ = most_agreeing(book)
            self.assertEqual(len(some), len(book.sayings) - 1)
        for _ in range(20):
            row = [(s, CHANCE.choice(outcomes_by(SQUARE, LETTERS, s))) for s in range(6)]
            self.assertTrue(any(do_bar(SQUARE, LETTERS, one, other) for one, other in combinations(row, 2)))


class Graphs(unittest.TestCase):
    def test_graphs_through_all_parts(self):
        seen = set()
        for graph in GRAPHS:
            found = turning_or_bar(graph)
            planar = found[0] == "drawn"
            seen.add(planar)
            if len(graph.lines) <= 9 and graph.many <= 6:
                self.assertEqual(own_planar(graph), planar)
            order = tuple(CHANCE.sample(range(graph.many), graph.many))
            word, told = moves_or_table(graph, order)
            self.assertEqual([word == "moves", move_count(graph) > 0, is_planar(graph)], [planar] * 3)
            self.assertEqual(read_graph(graph_text(graph)), graph)
            if planar:
                self.assertTrue(is_drawn(graph, found[1]))
                self.assertEqual(turned_pairs(graph, crossing_pairs(graph, order), told), ())
                self.assertEqual(read_turning(graph, turning_text(graph, found[1])), found[1])
            else:
                self.assertTrue(own_is_bar(graph, found))
                self.assertIs(is_odd_table(graph, table_of_bar(graph, found)), True)
                self.assertIs(is_odd_table(graph, told), True)
                self.assertIs(is_critical(graph, bar_lines(graph, found)), True)
                self.assertTrue(own_is_bar(graph, bar_by_clumps(graph, clumps_of(graph, found))))
            for words in (("planar", "bar"), ("even", "odd")):
                self.assertEqual(settled((words[0], graph))[0][0], words[0] if planar else words[1])
            if planar:
                self.assertEqual(settled(("six", graph))[0][0], "parted")
        self.assertEqual(seen, {True, False})

    def test_graphs_as_books(self):
        for graph in (CUBIC, FIVE, FOUR, GRID, LADDER, PETERSEN, OCTAHEDRON):
            for _ in range(3):
                same = renamed(CHANCE, graph)
                book = book_of(same, odd_bits(CHANCE, graph.many))
                self.assertEqual(graph_of(book), same)
                self.assertEqual(kinds(book), ("planar" if is_planar(graph) else "barred",))
                # All bits with one sum tell the same.
                unknowns = tuple(e for e in range(book.many) if CHANCE.randrange(2))
                self.assertEqual(answer(turned(book, unknowns))[0], answer(book)[0])
                self.assertEqual(answer(with_bits(book, odd_bits(CHANCE, graph.many)))[0], answer(book)[0])


class OddModuli(unittest.TestCase):
    def test_no_operators_but_signs_for_odd_moduli(self):
        # The square has right operators, no right signs; as an odd book with these sums it has neither numbers nor shifts.
        for m in (3, 5, 7, 9):
            rows = tuple((tuple((e, 1) for e in members), bit) for members, bit in SQUARE.sayings)
            self.assertEqual(numbers_or_weights((m, 9, rows))[0], "weights")
            even = tuple((terms, 0) for terms, _ in rows)
            self.assertEqual(number_count((m, 9, even)), m ** 4)


class NoneOfTheseIsTrue(unittest.TestCase):
    def test_right_operators_without_right_signs(self):
        self.assertEqual([operators_or_bar(SQUARE)[0], sign_count(SQUARE)], ["operators", 0])

    def test_two_odd_pieces(self):
        self.assertEqual([operators_or_bar(SQUARE)[0], operators_or_bar(BOTH)[0]], ["operators", "barred"])

    def test_few_lines_and_not_planar(self):
        self.assertTrue(len(CUBIC.lines) < 3 * CUBIC.many - 6 and not is_planar(CUBIC))

    def test_two_qubits_are_not_enough(self):
        self.assertEqual(fewest_qubits(PENTAGRAM), 3)

    def test_lines_that_cross_evenly_cross(self):
        # The one crossing of this drawing goes by a move; each two lines then cross evenly, but the arcs do cross.
        order = (0, 1, 2, 3)
        self.assertEqual(turned_pairs(FOUR, crossing_pairs(FOUR, order), moves_or_table(FOUR, order)[1]), ())
        self.assertTrue(all(crossing_pairs(FOUR, (0, *more)) for more in ((1, 2, 3), (2, 1, 3), (3, 1, 2))))
        self.assertIsInstance(Graph(1, ()), Graph)
        self.assertIsInstance(Book(1, (((0,), 0),)), Book)


if __name__ == "__main__":
    unittest.main()
