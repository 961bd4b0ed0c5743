"""Promises [24.1] to [24.5]: claims with their opposites, papers, and one judge of all of them."""

import unittest
from itertools import product
from random import Random
from time import perf_counter

from askedapart.errors import InvalidClaim, InvalidOperation, UnknownName
from askedapart.judge.claims import MOST_CLAIMS, OPPOSITES, does_take, is_claim, led_paper, opposite, settled
from askedapart.main.lesser import core_or_turning
from askedapart.main.lifts import few_operators
from askedapart.net.graphs import Graph
from askedapart.say.books import Book, beside
from book_samples import (BOTH, FREE, WIDER, barred_book, bent, drawn_longer, even_book, hidden, lot_bit, odd_bits, own_is_paper, paired_of, plain_graph,
                          planar_book)
from graph_samples import (BARES, CUBE_BAR, CUBIC, FIVE, FIVE_BAR, FLAT, FOUR, GRID, KITE, LADDER, NAMED, PETERSEN, TWO_RINGS, check_errors, complete, grown_drawing,
                           is_own_turning, own_handles, own_is_bar, small_graphs, with_hidden_bar)
from operator_samples import LETTERS, negated, own_are_right, own_is_operator, own_led, random_operators
from samples import CHAIN, LARGE, LONG, LONGEST, NOTHING, PENTAGRAM, SQUARE, TRIANGLE, caught, deep, random_paired, small_books
from test_arcs import own_apart, own_crossing, own_moves, own_odd, own_turned
from test_lesser import own_leads
from test_lifts import own_is_parting, some_parting
from test_odds import NINES, THREES, TWO, own_numbers, own_weights, random_odd_book
from test_odds import bent as bent_odd
from test_operators import own_is_led
from undoing_samples import UNDONE, own_is_undoing, with_swaps

CHANCE = Random(24)
WORDS = (("signs", "lot"), ("operators", "barred"), ("held", "undone"), ("planar", "bar"), ("even", "odd"), ("six", "parted"), ("core", "flat"),
         ("led", "unlike"), ("numbers", "weights"))
SOME_BOOKS = small_books(30, seed=24) + [SQUARE, PENTAGRAM, TRIANGLE, CHAIN, BOTH, bent(SQUARE, 2), beside(TRIANGLE, TRIANGLE)]
SOME_BOOKS += [hidden(CHANCE, CHANCE.randint(1, 3), CHANCE.randint(1, 4), CHANCE.randint(1, 6))[0] for _ in range(8)]
PAIRED = [random_paired(CHANCE, 6, 9) for _ in range(20)] + [SQUARE, PENTAGRAM, TRIANGLE, BOTH, bent(SQUARE, 2), beside(SQUARE, bent(TRIANGLE, 0)), beside(SQUARE, SQUARE)]
LONE = [barred_book(CHANCE, drawn=2, more=k % 3) for k in range(6)] + [planar_book(CHANCE, 7, 10)[0] for _ in range(8)] + [SQUARE, PENTAGRAM, TRIANGLE]
GRAPHS = small_graphs(16, seed=24) + [graph for graph in NAMED if graph.many <= 10] + [with_hidden_bar(CHANCE, ("five", "six")[k % 2], drawn=2, more=1, further=1) for k in range(8)]
GRAPHS += [grown_drawing(CHANCE, 8, 12)[0] for _ in range(5)]
ODD = [random_odd_book(m, hidden=k % 2 == 0) for k in range(6) for m in (3, 5, 7, 9)] + [THREES, NINES, TWO]


def some_rows():
    """Pairs of rows, led to one another or not."""
    found = [(LETTERS, LETTERS), (("+X", "+X"), ("+X", "-X")), (("+X",), ("+Y",)), (("+I",), ("-I",))]
    for _ in range(20):
        size, length = CHANCE.randint(1, 5), CHANCE.randint(1, 4)
        row = random_operators(CHANCE, size, length, 1)
        other = own_led(row, random_operators(CHANCE, 3, length))
        found.append((row, other if CHANCE.randrange(2) else random_operators(CHANCE, size, length, 1)))
        at = CHANCE.randrange(size)
        found.append((row, (*other[:at], negated(other[at]), *other[at + 1:])))
    return found


ROWS = some_rows()


def some_claims():
    """Claims of all words but those of several ones."""
    found = [(word, book) for words in WORDS[:2] for word in words for book in SOME_BOOKS]
    found += [(word, book) for word in WORDS[2] for book in PAIRED] + [(word, graph) for words in WORDS[3:6] for word in words for graph in GRAPHS]
    found += [(word, book) for word in WORDS[6] for book in LONE] + [(word, *rows) for word in WORDS[7] for rows in ROWS]
    return found + [(word, book) for word in WORDS[8] for book in ODD]


CLAIMS = some_claims()


def leaves(value):
    """All that stands in a value, lists being told as they are."""
    return [leaf for one in value for leaf in leaves(one)] if isinstance(value, tuple) else [value]


def own_steps(book, value):
    """Whether the value are steps of an undoing by their kinds."""
    for step in value:
        word, *more = step
        if word == "put" and (len(more) != 3 or tuple(sorted(more[2])) != book.sayings[more[1]][0]):
            return False
        if (word, len(more)) not in (("put", 3), ("cancel", 1), ("swap", 2)) or not 0 <= more[0] <= 200 or (word != "cancel" and more[1] < 0):
            return False
    return len(value) <= 4000


def own_takes(claim, value):
    """Whether a value is a paper, by the words of [24.1]; what cannot be looked at as a paper is none."""
    if not isinstance(value, tuple) or any(isinstance(leaf, (bool, list)) for leaf in leaves(value)):
        return False
    try:
        return bool(own_judge(claim, value))
    except (TypeError, ValueError, IndexError, KeyError, AttributeError, AssertionError):
        return False


def own_judge(claim, value):
    """The same for tuples without True and False."""
    word, thing, *rest = claim
    if word == "signs":
        return len(value) == thing.many and set(value) <= {0, 1} and all(sum(value[e] for e in members) % 2 == bit for members, bit in thing.sayings)
    if word == "lot":
        counted = all(sum(e in thing.sayings[s][0] for s in value) % 2 == 0 for e in range(thing.many))
        return list(value) == sorted(set(value)) and min(value) >= 0 and counted and lot_bit(thing, value) == 1
    if word in ("operators", "held"):
        fits = len(value) == thing.many and all(own_is_operator(one) for one in value) and len({len(one) for one in value}) == 1
        return fits and own_are_right(thing, value)
    if word == "barred":
        lot, pairs, hits = value
        return all(isinstance(one, tuple) for one in value) and own_is_paper(thing, lot, pairs, hits)
    if word == "undone":
        return own_steps(thing, value) and own_is_undoing(thing, value)
    if word in ("planar", "flat"):
        graph = thing if word == "planar" else plain_graph(thing)
        return is_own_turning(graph, value) and not any(own_handles(graph, value))
    if word in ("bar", "six"):
        return value[0] in (("five", "six") if word == "bar" else ("six",)) and len(value) == (3 if value[0] == "five" else 4) and own_is_bar(thing, value)
    if word == "even":
        order, moves = value
        return (sorted(order) == list(range(thing.many)) and list(moves) == sorted(set(moves)) and set(moves) <= set(own_moves(thing))
                and own_turned(thing, own_crossing(thing, order), moves) == ())
    if word == "odd":
        return list(value) == sorted(set(value)) and set(value) <= set(own_apart(thing)) and own_odd(thing, value, tuple(range(thing.many)))
    if word == "parted":
        fits = all(step[0] in ("drawn", "five", "split") and len(step) == (2 if step[0] == "five" else 3) for step in value)
        return fits and all(isinstance(one, tuple) for step in value for one in step[1:]) and own_is_parting(thing, value)
    if word == "core":
        fits = all(step[0] in ("out", "join") and len(step) == (3 if step[0] == "out" else 2) and step[1] >= 0 for step in value)
        return fits and all(step[0] == "join" or step[2] in (0, 1) for step in value) and own_leads(thing, value)
    if word in ("led", "unlike"):
        return own_turns(thing, rest[0], word, value)
    size = thing[1] if word == "numbers" else len(thing[2])
    right = own_numbers if word == "numbers" else own_weights
    return len(value) == size and all(0 <= one < thing[0] for one in value) and right(thing, value)


def own_turns(row, others, word, value):
    """The same for two rows."""
    if word == "led":
        return len(value) <= 200 and all(own_is_operator(by) and len(by) == len(row[0]) for by in value) and own_led(row, value) == others
    if value[0] == "lot":
        word, indices = value
        return indices != () and list(indices) == sorted(set(indices)) and 0 <= min(indices) and max(indices) < len(row) and own_is_led(row, others, value)
    word, i, j = value
    return word == "pair" and 0 <= i < j < len(row) and own_is_led(row, others, value)


def bent_values(value):
    """Values that are like a value, with one part changed; some may be right."""
    found = [value[1:], value[:-1], value + value[:1], value[::-1], list(value), (value,), (*value, 0), None]
    for at, one in enumerate(value):
        if isinstance(one, tuple):
            worse = CHANCE.choice(bent_values(one)) if one else CHANCE.choice(((0,), None, [], 0))
            found.append((*value[:at], worse, *value[at + 1:]))
            found.append((*value[:at], list(one), *value[at + 1:]))
        elif isinstance(one, str):
            for worse in (one + "I", one[:-1], one[::-1], ("-" if one[0] == "+" else "+") + one[1:], one.replace("X", "Z"), "", 0):
                found.append((*value[:at], worse, *value[at + 1:]))
        elif isinstance(one, int):
            for worse in (one + 1, one - 1, bool(one), str(one), LONG, (one,)):
                found.append((*value[:at], worse, *value[at + 1:]))
    return found


class Examples(unittest.TestCase):
    def test_examples(self):
        self.assertEqual([OPPOSITES["lot"], opposite(("each", (("signs", SQUARE), ("lot", TRIANGLE)))) == ("some", (("lot", SQUARE), ("signs", TRIANGLE)))],
                         ["signs", True])
        self.assertEqual([does_take(("operators", SQUARE), LETTERS), does_take(("undone", TRIANGLE), UNDONE), does_take(("planar", FOUR), FLAT),
                          does_take(("lot", SQUARE), (0, 1))], [True, True, True, False])
        self.assertEqual([settled(("signs", SQUARE)) == (("lot", SQUARE), (0, 1, 2, 3, 4, 5)), settled(("core", TRIANGLE))[0][0],
                          settled(("some", (("held", TRIANGLE), ("six", FOUR))))[0][0]], [True, "flat", "each"])
        self.assertEqual([led_paper(("undone", TRIANGLE), UNDONE, "barred")[0], is_claim(("core", BOTH)), is_claim(("held", Book(1, (((0,), 0),))))],
                         [(0, 1, 2), False, False])
        self.assertEqual(caught(UnknownName, led_paper, ("operators", SQUARE), LETTERS, "undone").wanted, "undone")


class Claims(unittest.TestCase):
    def test_opposites(self):
        self.assertEqual(len(OPPOSITES), 20)
        for one, other in (*WORDS, ("each", "some")):
            self.assertEqual([OPPOSITES[one], OPPOSITES[other]], [other, one])
        for claim in CLAIMS:
            self.assertIs(is_claim(claim), True)
            self.assertEqual(opposite(claim), (OPPOSITES[claim[0]], *claim[1:]))
            self.assertEqual(opposite(opposite(claim)), claim)
        for size in (1, 2, 8):
            some = tuple(CHANCE.choice(CLAIMS) for _ in range(size))
            for word in ("each", "some"):
                self.assertIs(is_claim((word, some)), True)
                self.assertEqual(opposite((word, some)), (OPPOSITES[word], tuple((OPPOSITES[one[0]], *one[1:]) for one in some)))
        self.assertEqual(MOST_CLAIMS, 8)

    def test_no_claims(self):
        odd_thing, wide = (3, 1, ((((0, 1),), 0),)), ("signs", SQUARE)
        for value in (*NOTHING, "signs", ("signs",), ("signs", None), ("signs", FOUR), ("signs", odd_thing), ("signs", SQUARE, SQUARE), ["signs", SQUARE], ("lot", SQUARE, 0), ("planar", FOUR, FOUR), ("six", FOUR, 0),
                      ("numbers", TWO, TWO), ("weights", TWO, 0), ("held", TRIANGLE, TRIANGLE), ("core", TRIANGLE, 0), ("led", ("+X",)), ("bar",), ("odd",), ("numbers",), ("core",), ("unlike",),
                      ("what", SQUARE), ("SIGNS", SQUARE), (("signs",), SQUARE), (["signs"], SQUARE), (SQUARE, "signs"), (None, SQUARE), ({}, SQUARE), (True, SQUARE),
                      ("held", CHAIN), ("undone", CHAIN), ("held", FOUR), ("planar", SQUARE), ("bar", None), ("even", FLAT), ("six", (4, FOUR.lines)), ("parted", TRIANGLE),
                      ("core", BOTH), ("flat", BOTH), ("core", bent(SQUARE, 0)), ("flat", CHAIN), ("flat", FOUR), ("core", beside(SQUARE, bent(TRIANGLE, 0))),
                      ("led", LETTERS), ("led", LETTERS, LETTERS[1:]), ("led", LETTERS, LETTERS, LETTERS), ("led", list(LETTERS), LETTERS), ("unlike", ("+X",), ("+XX",)), ("unlike", (), ()),
                      ("led", ("+X",) * 25, ("+X",) * 25), ("led", ("X",), ("X",)), ("led", "+X", "+X"), ("numbers", SQUARE), ("weights", (2, 1, ())), ("numbers", [*odd_thing]),
                      ("each", ()), ("some", ()), ("each", (wide,) * 9), ("each", [wide]), ("each", wide), ("some", (("each", (wide,)),)), ("each", (wide, None)), ("some", (wide, ("lot", FOUR))),
                      ("each", (wide,), ()), ("each", None), ("some", LONGEST), ("each",), ("some", ("signs", SQUARE)), deep(wide, 6, tuple), ("each", {0: wide})):
            self.assertIs(is_claim(value), False)
            for paper in (None, (), LETTERS, UNDONE, (0,) * 9):
                self.assertIs(does_take(value, paper), False)
            caught(InvalidClaim, opposite, value)
            caught(InvalidClaim, settled, value)
            caught(InvalidClaim, led_paper, value, UNDONE, "barred")


class Settled(unittest.TestCase):
    def check(self, claim):
        """The word of the true one of a claim and its opposite; the paper is one by its meaning."""
        true, paper = settled(claim)
        self.assertIn(true, (claim, opposite(claim)))
        self.assertTrue(own_takes(true, paper), (claim, paper))
        self.assertIs(does_take(true, paper), True)
        self.assertIs(does_take(opposite(true), paper), False)
        self.assertEqual(settled(opposite(claim))[0], true)
        return true[0]

    def test_just_one_of_both(self):
        counts = {word: 0 for words in WORDS for word in words}
        for claim in CLAIMS:
            counts[self.check(claim)] += 1
        self.assertGreater(min(counts.values()), 5, counts)

    def test_known_ones(self):
        for claim, word in ((("signs", CHAIN), "signs"), (("lot", SQUARE), "lot"), (("barred", SQUARE), "operators"), (("operators", BOTH), "barred"), (("undone", SQUARE), "held"),
                            (("held", BOTH), "undone"), (("held", bent(SQUARE, 0)), "held"), (("bar", GRID), "planar"), (("planar", PETERSEN), "bar"), (("odd", FOUR), "even"),
                            (("even", FIVE), "odd"), (("six", FIVE), "parted"), (("parted", CUBIC), "six"), (("six", LADDER), "six"), (("flat", PENTAGRAM), "core"), (("core", SQUARE), "core"),
                            (("led", ("+X",), ("+Y",)), "led"), (("unlike", ("+X", "+Z"), ("+X", "+X")), "unlike"), (("numbers", NINES), "weights"), (("weights", THREES), "numbers")):
            self.assertEqual(settled(claim)[0][0], word)
            self.assertIs(does_take(*settled(claim)), True)

    def test_at_the_bounds_and_fast(self):
        wide = paired_of(LADDER, odd_bits(CHANCE, 16))
        row = random_operators(CHANCE, 24, 12)
        claims = [("signs", LARGE), ("operators", FREE), ("operators", WIDER), ("operators", wide), ("held", wide), ("held", drawn_longer(CHANCE, PENTAGRAM, 11)), ("planar", LADDER),
                  ("even", LADDER), ("even", GRID), ("six", LADDER), ("six", GRID), ("core", wide), ("core", drawn_longer(CHANCE, TRIANGLE, 13)), ("signs", BOTH), ("planar", BARES), ("six", BARES),
                  ("led", row, own_led(row, random_operators(CHANCE, 9, 12))), ("numbers", random_odd_book(9, 24, 16)), ("held", even_book(CHANCE, 12, 20))]
        for claim in claims:
            begun = perf_counter()
            true, paper = settled(claim)
            self.assertIs(does_take(true, paper), True)
            self.assertIs(does_take(opposite(true), paper), False)
            self.assertLess(perf_counter() - begun, 3, claim[0])
        begun = perf_counter()
        true, paper = settled(("each", tuple(claims[3:11])))
        self.assertIs(does_take(true, paper), True)
        self.assertLess(perf_counter() - begun, 8)


class TheJudge(unittest.TestCase):
    def test_bent_papers(self):
        seen = {}
        for claim in CHANCE.sample(CLAIMS, 260):
            true, paper = settled(claim)
            for value in [paper, *CHANCE.sample(bent_values(paper), min(24, len(bent_values(paper))))]:
                wanted = own_takes(true, value)
                seen.setdefault(true[0], set()).add(wanted)
                self.assertIs(does_take(true, value), wanted, (true, value))
                self.assertIs(does_take(opposite(true), value), own_takes(opposite(true), value))
        self.assertEqual(len(seen), 18)
        self.assertTrue(all(False in found and True in found for found in seen.values()))

    def test_papers_that_the_package_would_not_tell(self):
        for claim, value in (
                (("operators", SQUARE), tuple(one + "I" for one in LETTERS)), (("held", SQUARE), tuple(one[0] + "IIII" + one[1:] for one in LETTERS)), (("undone", TRIANGLE), UNDONE * 3),
                (("undone", TRIANGLE), with_swaps(CHANCE, UNDONE)), (("planar", FOUR), tuple(turn[1:] + turn[:1] for turn in FLAT)), (("planar", FOUR), tuple(turn[::-1] for turn in FLAT)),
                (("even", FOUR), ((3, 1, 0, 2), ())), (("even", FOUR), ((0, 1, 2, 3), ((4, 2),))), (("core", SQUARE), ()), (("flat", TRIANGLE), ((1, 0), (0, 2), (2, 1))),
                (("led", ("+X",), ("+Y",)), ("-Z",)), (("led", ("+X",), ("+X",)), ("+Y",) * 200), (("unlike", ("+X", "+X"), ("+X", "-X")), ("lot", (0, 1))),
                (("weights", NINES), (1, 1, 1, 8, 8, 8)), (("weights", NINES), (2, 2, 2, 7, 7, 7)), (("six", CUBIC), CUBE_BAR), (("parted", FIVE), (("five", FIVE.lines),))):
            wanted = own_takes(claim, value)
            self.assertIs(does_take(claim, value), wanted, (claim, value))
        for claim, value in ((("bar", FIVE), FIVE_BAR), (("bar", CUBIC), CUBE_BAR), (("six", FIVE), FIVE_BAR), (("six", complete(6)), FIVE_BAR), (("bar", complete(6)), FIVE_BAR)):
            self.assertIs(does_take(claim, value), claim[0] == "bar" and claim[1] != complete(6))
        for graph in (KITE, TWO_RINGS, GRID, FIVE):
            self.assertIs(does_take(("parted", graph), some_parting(graph)), True)
        self.assertIs(does_take(("led", ("+X",), ("+X",)), ("+Y",) * 204), False)

    def test_every_value(self):
        for claim in [CLAIMS[k] for k in range(0, len(CLAIMS), 23)] + [("each", (("signs", SQUARE), ("lot", TRIANGLE))), ("some", (("signs", SQUARE), ("lot", TRIANGLE)))]:
            for value in (*NOTHING, *CLAIMS[0], ("led", ()), ("drawn", FLAT), ("core", ()), ("operators", LETTERS), ("signs", (0,) * 9)):
                if claim[0] in ("each", "some"):
                    self.assertIs(does_take(claim, value), False)
                else:
                    self.assertIs(does_take(claim, value), own_takes(claim, value), (claim, value))
        for value in NOTHING:
            for claim in NOTHING:
                self.assertIs(does_take(claim, value), False)

    def test_a_word_ahead_is_no_part_of_a_paper(self):
        for claim, value in ((("led", ("+X",), ("+X",)), ("led", ())), (("unlike", ("+X",), ("+X",)), ("led", ())), (("core", SQUARE), ("core", ())), (("operators", SQUARE), ("operators", LETTERS)),
                             (("barred", TRIANGLE), ("barred", *settled(("barred", TRIANGLE))[1])), (("numbers", TWO), ("numbers", (0, 2)))):
            self.assertIs(does_take(claim, value), False)
        self.assertIs(does_take(("barred", TRIANGLE), settled(("barred", TRIANGLE))[1]), True)


class Several(unittest.TestCase):
    def test_each_and_some(self):
        seen = set()
        for _ in range(120):
            claims = tuple(CHANCE.choice(CLAIMS) for _ in range(CHANCE.choice((1, 2, 3, 8))))
            if CHANCE.randrange(3) == 0:
                claims = tuple(settled(claim)[0] for claim in claims)
            elif CHANCE.randrange(2):
                claims = tuple(opposite(settled(claim)[0]) for claim in claims)
            true = [settled(claim)[0] == claim for claim in claims]
            for word in ("each", "some"):
                claim = (word, claims)
                told, paper = settled(claim)
                holds = all(true) if word == "each" else any(true)
                seen.add((word, holds))
                self.assertEqual(told, claim if holds else opposite(claim))
                self.assertIs(does_take(told, paper), True)
                self.assertIs(does_take(opposite(told), paper), False)
                if told[0] == "each":
                    self.assertTrue(len(paper) == len(claims) and all(own_takes(one, value) for one, value in zip(told[1], paper)))
                else:
                    self.assertTrue(own_takes(told[1][paper[0]], paper[1]))
        self.assertEqual(len(seen), 4)

    def test_their_papers(self):
        each = ("each", (("lot", SQUARE), ("operators", SQUARE), ("planar", FOUR)))
        papers = ((0, 1, 2, 3, 4, 5), LETTERS, FLAT)
        self.assertIs(does_take(each, papers), True)
        for at, worse in product(range(3), (None, (), 0, papers, ((),), (1, 2), LETTERS[1:])):
            self.assertIs(does_take(each, (*papers[:at], worse, *papers[at + 1:])), False)
        for value in (papers[:2], (*papers, papers[0]), list(papers), papers[::-1], (papers,), None):
            self.assertIs(does_take(each, value), False)
        some = ("some", each[1])
        for at, paper in enumerate(papers):
            self.assertIs(does_take(some, (at, paper)), True)
            for worse in ((at + 1, paper), (at - 1, paper), (at + 3, paper), (str(at), paper), [at, paper], (at,), (at, paper, 0), (bool(at), paper), (None, paper), (LONG, paper), paper):
                self.assertIs(does_take(some, worse), False)
        # Any of the true ones may be told.
        self.assertIs(does_take(("some", (("signs", SQUARE), ("lot", SQUARE), ("lot", TRIANGLE))), (2, (0, 1, 2))), True)
        self.assertIs(does_take(("some", (("signs", SQUARE), ("lot", SQUARE), ("lot", TRIANGLE))), (0, (0,) * 9)), False)


class LedOn(unittest.TestCase):
    def test_led_on(self):
        for book in [TRIANGLE, BOTH, beside(TRIANGLE, SQUARE), *[planar_book(CHANCE, 7, 10)[0] for _ in range(6)]]:
            true, steps = settled(("held", book))
            for value in (steps, with_swaps(CHANCE, steps), steps * 3):
                paper = led_paper(true, value, "barred")
                self.assertTrue(own_takes(("barred", book), paper))
                self.assertIs(does_take(("barred", book), paper), True)
        for book in [TRIANGLE, drawn_longer(CHANCE, TRIANGLE, 4), *[planar_book(CHANCE, 8, 12)[0] for _ in range(8)]]:
            turning = core_or_turning(book)[1]
            for value in (turning, tuple(turn[1:] + turn[:1] for turn in turning), tuple(turn[::-1] for turn in turning)):
                steps = led_paper(("flat", book), value, "undone")
                self.assertTrue(own_takes(("undone", book), steps))
                puts = {step[2]: step[3] for step in steps if step[0] == "put"}
                self.assertTrue(all(puts[s] in [turn[k:] + turn[:k] for k in range(len(turn))] for s, turn in enumerate(value)))
                self.assertTrue(own_takes(("barred", book), led_paper(("flat", book), value, "barred")))

    def test_no_other_words(self):
        for claim in [("undone", TRIANGLE), ("flat", TRIANGLE), ("operators", SQUARE), ("held", SQUARE), ("core", SQUARE), ("lot", SQUARE), ("planar", FOUR)]:
            value = settled(claim)[1]
            self.assertEqual(settled(claim)[0], claim)
            for word in (*OPPOSITES, "what", "", None, True, 0, (), ("barred",), ["barred"], {}, LONGEST, SQUARE):
                if (claim[0], word) not in (("undone", "barred"), ("flat", "undone"), ("flat", "barred")):
                    self.assertIs(caught(UnknownName, led_paper, claim, value, word).wanted, word)
            for worse in (*NOTHING, value[1:], list(value), (value,)):
                if not own_takes(claim, worse):
                    caught(InvalidOperation, led_paper, claim, worse, "barred")
                    caught(InvalidOperation, led_paper, claim, worse, "what")


class NoneOfTheseIsTrue(unittest.TestCase):
    def test_several_papers(self):
        for value in (LETTERS, few_operators(SQUARE), tuple(one + "I" for one in LETTERS)):
            self.assertIs(does_take(("operators", SQUARE), value), True)

    def test_a_paper_of_unlike_claims(self):
        for claim in (("operators", SQUARE), ("held", SQUARE), ("operators", Book(9, SQUARE.sayings[:3] + SQUARE.sayings[4:]))):
            self.assertIs(does_take(claim, LETTERS), True)

    def test_the_same_members(self):
        self.assertEqual([settled(("signs", SQUARE))[0][0], settled(("signs", bent(SQUARE, 0)))[0][0]], ["lot", "signs"])


class WrongArguments(unittest.TestCase):
    def test_wrong_arguments(self):
        claim = {0: (InvalidClaim, (*NOTHING, ("signs", FOUR), ["signs", SQUARE], ("what", SQUARE), ("core", BOTH), ("each", ())))}
        for call, good, bad in ((opposite, (("signs", SQUARE),), claim), (settled, (("signs", SQUARE),), claim),
                                (led_paper, (("undone", TRIANGLE), UNDONE, "barred"), {**claim, 1: (InvalidOperation, (*NOTHING, UNDONE[1:], list(UNDONE), UNDONE * 2, LETTERS)),
                                                                                      2: (UnknownName, (None, "undone", "lot", "", (), [], {}, True, LONGEST, "barred "))})):
            check_errors(call, good, bad)
        self.assertIs(is_claim(None), False)

    def test_nothing_is_changed_and_equal_calls_return_equal_results(self):
        for claim in CLAIMS[::17]:
            self.assertEqual(settled(claim), settled(claim))
        self.assertEqual(settled(("planar", complete(4))), settled(("planar", Graph(4, FOUR.lines))))
        self.assertTrue(bent_odd(THREES)[0] == 3)


if __name__ == "__main__":
    unittest.main()
