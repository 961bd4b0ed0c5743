"""Promises [15.1] to [15.7], and the main statement [0.17]: signs, operators, or an undoing."""

import unittest
from itertools import product
from random import Random
from time import perf_counter

from askedapart.errors import InvalidBook, InvalidOperation, InvalidOperator, Refused
from askedapart.main.answers import answer, is_answer, kinds, turned_operators
from askedapart.main.lifts import few_operators
from askedapart.net.arcs import is_odd_table
from askedapart.net.graphs import Graph
from askedapart.net.plane import is_planar
from askedapart.say.books import Book, beside, turned, with_bits
from askedapart.sign.answers import are_right_operators, is_right_table, operators_or_bar
from book_samples import (BOTH, barred_book, bent, drawn_longer, even_book, is_whole, mixed_up, odd_bits, paired_of, plain_graph,
                          planar_book)
from graph_samples import CUBIC, FIVE, LADDER, check_errors, complete, own_pieces, ring
from operator_samples import LETTERS, TEN, negated, own_are_right, own_table, random_operators
from samples import (CHAIN, LARGE, LONG, LONGEST, NOTHING, PENTAGRAM, SQUARE, TRIANGLE, all_bits, all_picks, caught, deep,
                     random_paired)
from undoing_samples import LAID, UNDONE, own_is_undoing, some_steps, with_swaps

CHANCE = Random(15)
NO_BOOK = tuple(value for value in NOTHING if not isinstance(value, Book))


def some_parts():
    """Paired books of one piece, each with its kind."""
    found = [(barred_book(CHANCE, drawn=2, more=k % 2, further=k % 3), "barred") for k in range(8)]
    found += [(planar_book(CHANCE, 6, 9)[0], "planar") for _ in range(12)]
    found += [(even_book(CHANCE, 6, 9), "even") for _ in range(12)]
    return found + [(SQUARE, "barred"), (PENTAGRAM, "barred"), (TRIANGLE, "planar"), (bent(SQUARE, 1), "even"), (bent(PENTAGRAM, 1), "even")]


PARTS = some_parts()


def put_together():
    """Books of one and of several pieces, each with the kinds of its pieces."""
    found = [(book, (kind,)) for book, kind in PARTS]
    while len(found) < 160:
        book, told = found[CHANCE.randrange(len(found))]
        part, kind = CHANCE.choice(PARTS)
        if book.many + part.many <= 24 and len(book.sayings) + len(part.sayings) <= 16:
            found.append((beside(book, part), (*told, kind)))
    return found


TOLD = put_together()
BOOKS = [book for book, _ in TOLD] + [mixed_up(CHANCE, book) for book, told in TOLD if len(told) > 1]
BOOKS += [random_paired(CHANCE, 9, 16) for _ in range(40)] + [LARGE, BOTH, drawn_longer(CHANCE, PENTAGRAM, 10), drawn_longer(CHANCE, SQUARE, 10)]


def own_kinds(book):
    """By the words of [15.1], each piece drawn by itself."""
    graph, found = plain_graph(book), []
    for lot in own_pieces(graph):
        inner = Graph(graph.many, tuple(ends for ends in graph.lines if ends[0] in lot))
        odd = sum(book.sayings[at][1] for at in lot) % 2
        found.append(("planar" if is_planar(inner) else "barred") if odd else "even")
    return tuple(found)


def own_signs(book, signs):
    """Whether signs are right."""
    return all(sum(signs[e] for e in members) % 2 == bit for members, bit in book.sayings)


def wanted_word(told):
    """The word that [15.2] tells for kinds."""
    if "planar" in told:
        return "undoing"
    return "operators" if "barred" in told else "signs"


class Examples(unittest.TestCase):
    def test_examples(self):
        self.assertEqual([kinds(SQUARE), kinds(TRIANGLE), kinds(BOTH), answer(SQUARE)[0], answer(TRIANGLE)[0], answer(BOTH)[0]],
                         [("barred",), ("planar",), ("barred", "planar"), "operators", "undoing", "undoing"])
        self.assertEqual([is_answer(SQUARE, ("operators", LETTERS)), is_answer(SQUARE, ("signs", (0,) * 9)),
                          answer(Book(2, (((0, 1), 1), ((0, 1), 1))))[0]], [True, False, "signs"])
        self.assertEqual([turned_operators(SQUARE, (8,), LETTERS)[8],
                          are_right_operators(turned(SQUARE, (8,)), turned_operators(SQUARE, (8,), LETTERS))], ["-YY", True])
        self.assertEqual(caught(Refused, answer, Book(1, (((0,), 1),))).reason, ("pairs",))


class Kinds(unittest.TestCase):
    def test_kinds(self):
        seen = set()
        for book, told in TOLD:
            self.assertEqual(kinds(book), told)
            seen |= set(told)
        for book in BOOKS:
            self.assertEqual(kinds(book), own_kinds(book))
        self.assertEqual(seen, {"even", "planar", "barred"})

    def test_pieces_of_one_saying_and_sixteen(self):
        pairs = tuple(saying for k in range(8) for saying in (((k,), 1), ((k,), int(k % 3 == 0))))
        self.assertEqual(kinds(Book(8, pairs)), tuple("even" if k % 3 == 0 else "planar" for k in range(8)))
        self.assertEqual(kinds(paired_of(LADDER, odd_bits(CHANCE, 16))), ("barred",))
        self.assertEqual(kinds(paired_of(ring(16), odd_bits(CHANCE, 16))), ("planar",))

    def test_equal_sums_of_bits_and_equal_kinds(self):
        for book, told in TOLD:
            lots = own_pieces(plain_graph(book))
            bits = [0] * len(book.sayings)
            for lot in lots:
                bits[CHANCE.choice(lot)] = sum(book.sayings[at][1] for at in lot) % 2
            other = with_bits(book, tuple(bits))
            self.assertEqual(kinds(other), told)
            unknowns = tuple(e for e in range(book.many) if CHANCE.randrange(2))
            self.assertEqual(kinds(turned(book, unknowns)), told)


class Answers(unittest.TestCase):
    def check(self, book):
        """The word of what is told, which is right by its meaning."""
        found = answer(book)
        self.assertEqual(len(found), 2)
        if found[0] == "signs":
            self.assertTrue(own_signs(book, found[1]))
        elif found[0] == "operators":
            self.assertTrue(own_are_right(book, found[1]))
            self.assertIn(len(found[1][0]) - 1, (2, 3))
        else:
            self.assertEqual(found[0], "undoing")
            self.assertTrue(own_is_undoing(book, found[1]))
            self.assertLessEqual(len(found[1]), 4000)
            puts = [step[2] for step in found[1] if step[0] == "put"]
            self.assertIn(tuple(sorted(puts)), own_pieces(plain_graph(book)))
        self.assertIs(is_answer(book, found), True)
        return found[0]

    def test_just_as_the_kinds_tell(self):
        words = {"signs": 0, "operators": 0, "undoing": 0}
        for book in BOOKS:
            word = self.check(book)
            words[word] += 1
            self.assertEqual(word, wanted_word(own_kinds(book)))
        self.assertGreater(min(words.values()), 10)

    def test_against_the_sums_of_bits(self):
        # By stage 11: operators are right exactly if no piece is planar.
        for book in BOOKS[::2]:
            self.assertEqual(operators_or_bar(book)[0] == "barred", "planar" in own_kinds(book))

    def test_signs_of_small_books(self):
        for book in [book for book in BOOKS if book.many <= 8]:
            right = any(own_signs(book, bits) for bits in all_bits(book.many))
            self.assertEqual(answer(book)[0] == "signs", right)

    def test_unlike_lengths_are_filled_up(self):
        two = beside(SQUARE, PENTAGRAM)
        found = answer(two)[1]
        self.assertEqual(len(found[0]), 4)
        self.assertTrue(own_are_right(two, found))
        three = beside(bent(SQUARE, 0), SQUARE)
        found = answer(three)[1]
        self.assertEqual({operator[1:] for operator in found[:9]}, {"II"})
        self.assertTrue(own_are_right(three, found))

    def test_two_letters_in_one_piece_and_three_in_another_one(self):
        for one, other in ((SQUARE, PENTAGRAM), (PENTAGRAM, SQUARE), (SQUARE, SQUARE), (PENTAGRAM, PENTAGRAM)):
            if len(one.sayings) + len(other.sayings) <= 16:
                book = mixed_up(CHANCE, beside(one, other))
                self.assertEqual(self.check(book), "operators")

    def test_two_books_beside_one_another(self):
        for one, other in product((SQUARE, TRIANGLE, PENTAGRAM, bent(TRIANGLE, 0), bent(SQUARE, 0)), repeat=2):
            book = beside(one, other)
            self.assertEqual(kinds(book), kinds(one) + kinds(other))
            self.check(book)

    def test_odd_tables_of_drawings(self):
        # [15.5]: for an odd piece right tables are the odd tables of the graph.
        judged = []
        for book in (SQUARE, PENTAGRAM, TRIANGLE, barred_book(CHANCE, drawn=2, more=1), paired_of(complete(4), (1, 0, 0, 0)),
                     barred_book(CHANCE, drawn=3, further=3)):
            graph = plain_graph(book)
            found = operators_or_bar(book)
            start = own_table(found[1]) if found[0] == "operators" else ()
            apart = [(e, f) for e in range(book.many) for f in range(e + 1, book.many) if not set(graph.lines[e]) & set(graph.lines[f])]
            for k in range(30):
                lot = set(start)
                for _ in range(k % 3 if apart else 0):
                    lot ^= {CHANCE.choice(apart)}
                value = tuple(sorted(lot))
                judged.append(is_odd_table(graph, value))
                self.assertIs(is_right_table(book, value), judged[-1])
        self.assertEqual(set(judged), {True, False})

    def test_at_the_bounds(self):
        full = paired_of(LADDER, odd_bits(CHANCE, 16))
        for book in (full, LARGE, paired_of(ring(16), odd_bits(CHANCE, 16)), bent(full, 0), Book(8, tuple(((k,), 1) for k in range(8)) * 2),
                     Book(24, tuple((tuple(range(8 * (k // 2), 8 * (k // 2) + 8)), int(k == 3)) for k in range(6)))):
            begun = perf_counter()
            self.assertEqual(self.check(book), wanted_word(own_kinds(book)))
            self.assertLess(perf_counter() - begun, 3)


class TheJudge(unittest.TestCase):
    def test_signs(self):
        judged = []
        for book in [book for book in BOOKS if book.many <= 9][:60]:
            for bits in [CHANCE.choice(all_bits(book.many)) for _ in range(6)] + all_bits(min(book.many, 3)):
                wanted = len(bits) == book.many and own_signs(book, bits)
                judged.append(wanted)
                self.assertIs(is_answer(book, ("signs", bits)), wanted)
        self.assertEqual(set(judged), {True, False})
        even = bent(TRIANGLE, 0)
        right = [bits for bits in all_bits(3) if own_signs(even, bits)]
        self.assertEqual(len(right), 2)
        for bits in right:
            self.assertIs(is_answer(even, ("signs", bits)), True)
            self.assertIs(is_answer(even, ("signs", list(bits))), False)

    def test_operators_only_where_no_signs_are_right(self):
        self.assertIs(is_answer(SQUARE, ("operators", LETTERS)), True)
        even = turned(bent(SQUARE, 0), ())
        plain = tuple("+-"[bit] + "I" for bit in answer(even)[1])
        self.assertTrue(own_are_right(even, plain))
        self.assertIs(is_answer(even, ("operators", plain)), False)
        both = beside(SQUARE, bent(TRIANGLE, 0))
        found = answer(both)
        self.assertIs(is_answer(both, found), True)

    def test_operators_of_any_number_of_letters(self):
        judged = []
        for book, own in ((SQUARE, LETTERS), (PENTAGRAM, TEN), (SQUARE, few_operators(SQUARE))):
            for more in range(0, 12):
                value = tuple(operator + "I" * more for operator in own)
                self.assertIs(is_answer(book, ("operators", value)), len(value[0]) <= 13)
                at = CHANCE.randrange(book.many)
                for worse in (negated(value[at]), random_operators(CHANCE, 1, len(value[at]) - 1)[0] if len(value[at]) < 14 else None):
                    bend = (*value[:at], worse, *value[at + 1:])
                    wanted = len(value[0]) <= 13 and own_are_right(book, bend)
                    judged.append(wanted)
                    self.assertIs(is_answer(book, ("operators", bend)), wanted)
        self.assertIn(False, judged)

    def test_any_undoing(self):
        judged = []
        for book in [book for book in BOOKS if answer(book)[0] == "undoing"][:40]:
            steps = answer(book)[1]
            ahead, row = some_steps(CHANCE, book, (), 12, 40)
            for value in (steps, with_swaps(CHANCE, steps), steps * 3, steps * 2, steps[:-1], steps[1:], ahead + steps, ()):
                wanted = own_is_undoing(book, value)
                judged.append(wanted)
                self.assertIs(is_answer(book, ("undoing", value)), wanted)
            self.assertIs(is_answer(book, ("undoing", list(steps))), False)
            self.assertIs(is_answer(book, ("signs", steps)), False)
        self.assertEqual(set(judged), {True, False})

    def test_every_value(self):
        for value in (*NOTHING, ("operators", None), ("operators", ["+X"]), ("operators", LETTERS[:8]), ("operators", (None,) * 9),
                      ("signs", None), ("signs", (0,) * 9), ("signs", [0] * 9), ("undoing", None), ("undoing", ()), ("undoing", LAID),
                      ("undoing", (None,)), ("undoing", UNDONE[0]), ("undoing", [*UNDONE]), (LETTERS,), ("operators", LETTERS, ()),
                      ["operators", LETTERS], LETTERS, ("what", LETTERS), ("undoing", LETTERS), deep(LETTERS, 6, tuple), ("signs", LONGEST)):
            self.assertIs(is_answer(SQUARE, value), False)
            self.assertIs(is_answer(TRIANGLE, value), False)


class Turned(unittest.TestCase):
    def test_turned_operators(self):
        for book in [SQUARE, PENTAGRAM, BOTH, *BOOKS[:20]]:
            row = random_operators(CHANCE, book.many, CHANCE.randint(1, 12))
            unknowns = tuple(e for e in range(book.many) if CHANCE.randrange(2))
            found = turned_operators(book, unknowns, row)
            self.assertEqual(found, tuple(negated(operator) if e in unknowns else operator for e, operator in enumerate(row)))
            self.assertEqual(turned_operators(book, unknowns, found), row)
            self.assertEqual(turned_operators(book, (), row), row)

    def test_right_ones_become_right_ones(self):
        for book, own in ((SQUARE, LETTERS), (PENTAGRAM, TEN)):
            for unknowns in all_picks(book.many)[::7]:
                found = turned_operators(book, unknowns, own)
                self.assertTrue(own_are_right(turned(book, unknowns), found))
                self.assertIs(is_answer(turned(book, unknowns), ("operators", found)), True)


class NoneOfTheseIsTrue(unittest.TestCase):
    def test_a_barred_piece_and_no_operators(self):
        self.assertIn("barred", kinds(BOTH))
        self.assertEqual(operators_or_bar(BOTH)[0], "barred")

    def test_the_same_members_and_other_kinds(self):
        self.assertEqual([kinds(SQUARE), kinds(bent(SQUARE, 0))], [("barred",), ("even",)])

    def test_an_undoing_but_not_with_one_put_for_each_saying(self):
        # All puts sum to 0 if there are two odd pieces, or a barred one beside the planar one.
        for book in (BOTH, beside(TRIANGLE, TRIANGLE)):
            self.assertEqual(answer(book)[0], "undoing")
            self.assertEqual(sum(bit for _, bit in book.sayings) % 2, 0)
            self.assertNotEqual(len({step[2] for step in answer(book)[1] if step[0] == "put"}), len(book.sayings))


class WrongArguments(unittest.TestCase):
    OPERATORS = (*NOTHING, LETTERS[:-1], LETTERS + LETTERS[:1], list(LETTERS), LETTERS[0], (LETTERS,), (*LETTERS[:-1], "+X"),
                 (*LETTERS[:-1], "XX"), (*LETTERS[:-1], None), ("+" + "I" * 13,) * 9)

    def test_wrong_arguments(self):
        book = {0: (InvalidBook, NO_BOOK)}
        operators = {**book, 1: (InvalidOperation, (*[value for value in NOTHING if value not in ((), (0,), (0, 1), (2,), (0, 2))], (1, 0),
                                                    (0, 0), (9,), [0], (True,), (0, LONG), (-1,))), 2: (InvalidOperator, self.OPERATORS)}
        for call, good, bad in ((kinds, (SQUARE,), book), (answer, (SQUARE,), book), (is_answer, (SQUARE, None), book),
                                (turned_operators, (SQUARE, (8,), LETTERS), operators)):
            check_errors(call, good, bad)

    def test_books_that_are_not_paired(self):
        for book in (CHAIN, Book(1, (((0,), 1),)), Book(3, (((0, 1, 2), 1), ((0, 1), 0)))):
            for call, more in ((kinds, ()), (answer, ()), (is_answer, (None,)), (is_answer, (("signs", (0,)),)),
                               (turned_operators, ((0,), ("+X",) * book.many))):
                self.assertEqual(caught(Refused, call, book, *more).reason, ("pairs",))
            # What comes with "then" is behind all others.
            caught(InvalidOperation, turned_operators, book, (9,), ("+X",) * book.many)
            caught(InvalidOperator, turned_operators, book, (0,), ("+X",) * (book.many + 1))

    def test_nothing_is_changed_and_equal_calls_return_equal_results(self):
        for book in BOOKS[::10]:
            sayings = book.sayings
            self.assertEqual(answer(book), answer(book))
            self.assertEqual(book.sayings, sayings)
        self.assertTrue(is_whole(CUBIC) and is_whole(FIVE))


if __name__ == "__main__":
    unittest.main()
