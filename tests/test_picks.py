"""Promises [21.1] to [21.6]: outcomes that agree, picks, the most that agree, and outcomes of right operators."""

import unittest
from fractions import Fraction
from itertools import combinations, product
from random import Random
from time import perf_counter

from askedapart.errors import InvalidBook, InvalidNumber, InvalidOperation, InvalidOperator, Refused
from askedapart.more.picks import (both_chance, do_agree, do_bar, is_most_agreeing, is_outcome, is_pick, is_pick_or_lot, most_agreeing,
                                   outcomes_by, outcomes_of, pick_by, pick_count, pick_or_lot, signs_telling)
from askedapart.play.pairs import mirrored, pair_outcomes
from askedapart.say.books import Book, beside, is_paired, pieces
from askedapart.sign.answers import operators_or_bar
from book_samples import BOTH, FREE, WIDER, barred_book, bent, cancelling_lots, even_book, hidden, lot_bit, planar_book
from graph_samples import check_errors
from operator_samples import LETTERS, TEN, negated, own_are_right, own_times
from samples import CHAIN, LARGE, LONG, LONGEST, NOTHING, PENTAGRAM, SQUARE, TRIANGLE, all_bits, all_picks, caught, deep, random_paired, small_books

CHANCE = Random(21)
NO_BOOK = tuple(value for value in NOTHING if not isinstance(value, Book))
LOOSE = Book(2, (((0,), 0), ((0,), 1), ((1,), 0)))
SMALL = small_books(120, seed=21) + [random_paired(CHANCE, 4, 6) for _ in range(50)] + [TRIANGLE, CHAIN, LOOSE, bent(TRIANGLE, 0)]
PAIRED = [random_paired(CHANCE, 9, 16) for _ in range(30)] + [barred_book(CHANCE, drawn=2) for _ in range(4)] + [planar_book(CHANCE, 8, 12)[0] for _ in range(5)]
PAIRED += [even_book(CHANCE, 6, 9), SQUARE, PENTAGRAM, TRIANGLE, BOTH, LARGE, beside(TRIANGLE, TRIANGLE), beside(beside(TRIANGLE, SQUARE), TRIANGLE), bent(SQUARE, 1)]
HIDDEN = [hidden(CHANCE, CHANCE.randint(1, 3), CHANCE.randint(1, 4), CHANCE.randint(1, 6)) for _ in range(50)]
HIDDEN += [(SQUARE, LETTERS), (PENTAGRAM, TEN), (WIDER, (*LETTERS, "+II", "+II")), (bent(TRIANGLE, 0), ("+X", "-X", "+X")), (bent(TRIANGLE, 0), ("-I", "+I", "-I"))]


def own_outcomes(book, saying):
    """By the words of the section: all bits with the sum of the saying's bit."""
    members, bit = book.sayings[saying]
    return tuple(bits for bits in all_bits(len(members)) if sum(bits) % 2 == bit)


def all_outcomes(book):
    """All outcomes of all sayings."""
    return [(s, bits) for s in range(len(book.sayings)) for bits in own_outcomes(book, s)]


def own_agree(book, one, other):
    """By the words of [21.1]."""
    tell, more = [dict(zip(book.sayings[s][0], bits)) for s, bits in (one, other)]
    return all(tell[e] == more[e] for e in tell if e in more)


def own_signs(book, signs):
    """Whether signs are right."""
    return all(sum(signs[e] for e in members) % 2 == bit for members, bit in book.sayings)


def own_told(book, operators, outcome):
    """The set of all operators that an outcome tells, by the words of [21.4]; none of all tells letters I."""
    s, bits = outcome
    members = book.sayings[s][0]
    found = {"+" + "I" * (len(operators[0]) - 1)}
    for pick in all_picks(len(members)):
        if pick:
            power, letters = own_times(*[operators[members[k]] for k in pick])
            found.add("+-"[(power // 2 + sum(bits[k] for k in pick)) % 2] + letters)
    return found


def own_can_come(book, operators, outcome):
    """Whether it tells no minus with letters I alone."""
    return "-" + "I" * (len(operators[0]) - 1) not in own_told(book, operators, outcome)


def own_bar(book, operators, one, other):
    """Whether the one tells an operator, the other one the same with the other sign."""
    more = own_told(book, operators, other)
    return any(negated(operator) in more for operator in own_told(book, operators, one))


class Examples(unittest.TestCase):
    def test_examples(self):
        self.assertEqual([outcomes_of(TRIANGLE, 2), do_agree(SQUARE, (0, (0, 0, 0)), (5, (1, 0, 0))), pick_or_lot(TRIANGLE), pick_count(TRIANGLE)],
                         [((0, 1), (1, 0)), False, ("lot", (0, 1, 2)), 0])
        self.assertEqual([len(most_agreeing(SQUARE)[0]), both_chance(SQUARE, LETTERS, (0, (0, 0, 0)), (3, (0, 1, 1)))], [5, (1, 8)])
        self.assertEqual(caught(Refused, signs_telling, SQUARE, ((0, (0, 0, 0)), (3, (1, 0, 1)))).reason, ("apart", 0, 1))


class Agreeing(unittest.TestCase):
    def test_outcomes(self):
        for book in SMALL + PAIRED:
            for s, (members, _) in enumerate(book.sayings):
                found = outcomes_of(book, s)
                self.assertEqual(found, own_outcomes(book, s))
                for bits in all_bits(len(members))[:20]:
                    self.assertIs(is_outcome(book, (s, bits)), bits in found)
        eight = Book(8, ((tuple(range(8)), 1),))
        self.assertEqual((len(outcomes_of(eight, 0)), outcomes_of(eight, 0)), (128, own_outcomes(eight, 0)))
        for value in (*NOTHING, (0, (0, 0, 0), 0), [0, (0, 0, 0)], (0, [0, 0, 0]), (0, (0, 0)), (0, (0, 0, 0, 0)), (True, (0, 0, 0)), (0, (0, 0, False)), (6, (0, 0, 0)),
                      (-1, (0, 0, 0)), (LONG, (0, 0, 0)), (0, (0, 0, LONG)), (0, "000"), (0, (2, 0, 0)), deep((0, (0, 0, 0)), 5, tuple)):
            self.assertIs(is_outcome(SQUARE, value), False)

    def test_agree(self):
        seen = set()
        for book in SMALL:
            some = all_outcomes(book)
            for one, other in CHANCE.sample(list(product(some, repeat=2)), min(40, len(some) ** 2)):
                wanted = own_agree(book, one, other)
                seen.add((wanted, one[0] == other[0]))
                self.assertIs(do_agree(book, one, other), wanted)
                if one[0] == other[0]:
                    self.assertEqual(wanted, one == other)
        self.assertEqual(len(seen), 4)

    def test_signs_telling(self):
        for book in SMALL + PAIRED:
            signs = tuple(CHANCE.randrange(2) for _ in range(book.many))
            true = [s for s, (members, bit) in enumerate(book.sayings) if sum(signs[e] for e in members) % 2 == bit]
            some = tuple((s, tuple(signs[e] for e in book.sayings[s][0])) for s in CHANCE.sample(true, CHANCE.randint(0, len(true))))
            some = some + some[:1]
            met = {e for s, _ in some for e in book.sayings[s][0]}
            self.assertEqual(signs_telling(book, some), tuple(bit if e in met else 0 for e, bit in enumerate(signs)))

    def test_the_least_two_that_do_not_agree(self):
        seen = set()
        for book in SMALL + PAIRED[:20]:
            some = all_outcomes(book)
            for _ in range(8):
                row = tuple(CHANCE.choice(some) for _ in range(CHANCE.randint(1, 7)))
                apart = [(i, j) for i, j in combinations(range(len(row)), 2) if not own_agree(book, row[i], row[j])]
                if apart:
                    seen.add(apart[0])
                    self.assertEqual(caught(Refused, signs_telling, book, row).reason, ("apart", *apart[0]))
                else:
                    told = signs_telling(book, row)
                    self.assertTrue(all(tuple(told[e] for e in book.sayings[s][0]) == bits for s, bits in row))
        self.assertGreater(len(seen), 5)

    def test_long_rows(self):
        one = ((0, (0, 0, 0)),)
        begun = perf_counter()
        self.assertEqual(signs_telling(SQUARE, one * 50000), (0,) * 9)
        self.assertEqual(caught(Refused, signs_telling, SQUARE, one * 9000 + ((3, (1, 0, 1)),)).reason, ("apart", 0, 9000))
        self.assertEqual(caught(Refused, signs_telling, SQUARE, one * 9000 + ((4, (1, 0, 1)),)).reason, ("apart", 0, 9000))
        rest = ((1, (0, 0, 0)),) * 10 + one * 10 + ((4, (1, 0, 1)),)
        self.assertEqual(caught(Refused, signs_telling, SQUARE, rest).reason, ("apart", 10, 20))
        self.assertLess(perf_counter() - begun, 2)


class Picks(unittest.TestCase):
    def test_all_picks(self):
        seen = set()
        for book in SMALL:
            some = [own_outcomes(book, s) for s in range(len(book.sayings))]
            values = list(product(*some))
            if len(values) > 600:
                continue
            right = [value for value in values if all(own_agree(book, one, other) for one, other in combinations(list(enumerate(value)), 2))]
            for value in values:
                self.assertIs(is_pick(book, value), value in right)
                self.assertIs(is_pick_or_lot(book, ("pick", value)), value in right)
            self.assertEqual(pick_count(book), len(right))
            signs = [bits for bits in all_bits(book.many) if own_signs(book, bits)]
            self.assertEqual(sorted(pick_by(book, bits) for bits in signs), right)
            word, found = pick_or_lot(book)
            seen.add(word)
            self.assertEqual(word == "pick", right != [])
            self.assertTrue(found in right if right else found in cancelling_lots(book) and lot_bit(book, found) == 1)
            self.assertIs(is_pick_or_lot(book, (word, found)), True)
            for bits in all_bits(book.many):
                if bits not in signs:
                    caught(InvalidOperation, pick_by, book, bits)
        self.assertEqual(seen, {"pick", "lot"})

    def test_all_lots(self):
        for book in SMALL:
            right = [lot for lot in cancelling_lots(book) if lot_bit(book, lot)]
            for lot in all_picks(len(book.sayings)):
                self.assertIs(is_pick_or_lot(book, ("lot", lot)), lot in right)
                self.assertIs(is_pick_or_lot(book, ("pick", lot)), False)
                self.assertIs(is_pick_or_lot(book, ("signs", lot)), False)

    def test_large_ones(self):
        for book in PAIRED + [FREE]:
            word, found = pick_or_lot(book)
            self.assertIs(is_pick_or_lot(book, (word, found)), True)
            if word == "pick":
                signs = signs_telling(book, tuple(enumerate(found)))
                self.assertTrue(own_signs(book, signs))
                self.assertEqual(pick_by(book, signs), found)
            else:
                self.assertEqual(pick_count(book), 0)
        self.assertEqual(pick_count(FREE), 2 ** 8)

    def test_the_judged_values(self):
        pick = pick_or_lot(bent(SQUARE, 0))[1]
        for at, row in enumerate(pick):
            for worse in (list(row), row[1:], (*row, 0), None, (bool(row[0]), *row[1:]), (1 - row[0], *row[1:]), (2, *row[1:]), LONGEST, "000"):
                self.assertIs(is_pick(bent(SQUARE, 0), (*pick[:at], worse, *pick[at + 1:])), False)
        for value in (*NOTHING, list(pick), pick[1:], pick + pick[:1], (pick,), ("pick", None), ("pick", list(pick)), ["pick", pick], ("pick",), ("pick", pick, ()), ("lot", ()),
                      ("lot", (0, 1)), ("pick", "000"), deep(pick, 4, tuple)):
            self.assertIs(is_pick(bent(SQUARE, 0), value), False)
            self.assertIs(is_pick_or_lot(bent(SQUARE, 0), value), False)
        self.assertIs(is_pick_or_lot(SQUARE, ("lot", (0, 1, 2, 3, 4, 5))), True)


class Most(unittest.TestCase):
    def own_is_most(self, book, value):
        """By the words of the interface, for values of the kinds told."""
        some, lots = value
        right = [lot for lot in cancelling_lots(book) if lot_bit(book, lot)]
        met = [s for lot in lots for s in lot]
        return (list(some) == sorted(set(some)) and len({s for s, _ in some}) == len(some) and all(one in all_outcomes(book) for one in some)
                and all(own_agree(book, one, other) for one, other in combinations(some, 2)) and list(lots) == sorted(set(lots))
                and all(lot in right for lot in lots) and len(set(met)) == len(met) and len(lots) == len(book.sayings) - len(some))

    def test_paired_books(self):
        sizes = set()
        for book in PAIRED + [book for book in SMALL if is_paired(book)]:
            found = most_agreeing(book)
            odd = [lot for lot in pieces(book) if lot_bit(book, lot)]
            sizes.add(len(odd))
            self.assertEqual(len(found[0]), len(book.sayings) - len(odd))
            self.assertIs(is_most_agreeing(book, found), True)
            if len(book.sayings) <= 9:
                self.assertTrue(self.own_is_most(book, found))
        self.assertTrue({0, 1, 2} <= sizes)

    def test_the_most_of_all(self):
        # Of small paired books by all outcomes; no more of them agree.
        for book in [book for book in SMALL if is_paired(book)][:25]:
            best = max(sum(sum(signs[e] for e in members) % 2 == bit for members, bit in book.sayings) for signs in all_bits(book.many))
            self.assertEqual(len(most_agreeing(book)[0]), best)

    def test_the_judge(self):
        seen = []
        for book in SMALL + [SQUARE, beside(TRIANGLE, TRIANGLE)]:
            right = [lot for lot in cancelling_lots(book) if lot_bit(book, lot)]
            for _ in range(12):
                signs = tuple(CHANCE.randrange(2) for _ in range(book.many))
                true = [s for s, (members, bit) in enumerate(book.sayings) if sum(signs[e] for e in members) % 2 == bit]
                some = tuple((s, tuple(signs[e] for e in book.sayings[s][0])) for s in true)
                missing = len(book.sayings) - len(some)
                wrong = [tuple(sorted(CHANCE.sample(all_picks(len(book.sayings)), min(missing, 2)))) for _ in range(4)]
                for lots in list(combinations(right, missing))[:6] + [tuple(right), (), tuple(right[:1]), tuple(right[::-1])] + wrong:
                    for value in ((some, lots), (some[1:], lots), (some[::-1], lots), (some + some[:1], lots)):
                        seen.append(self.own_is_most(book, value))
                        self.assertIs(is_most_agreeing(book, value), seen[-1])
        self.assertGreater(min(seen.count(True), seen.count(False)), 60)

    def test_bent_values(self):
        for book in PAIRED:
            some, lots = most_agreeing(book)
            for value in ((list(some), lots), (some, list(lots)), [some, lots], (some,), (some, lots, ()), (lots, some) if lots != some else None, (some[1:], lots), (some, lots + ((0,),)),
                          (some, lots[:-1]) if lots else None, (some, ((),) + lots), None, (None, None), ((None,), lots), (some, (None,)), (some, (LONGEST,))):
                self.assertIs(is_most_agreeing(book, value), False)
            s, bits = some[-1]
            for worse in ((s, list(bits)), [s, bits], (s, bits[1:]), (s, (1 - bits[0], *bits[1:])), (bool(s), bits) if s < 2 else None, (s + 99, bits), s, (s, bits, 0)):
                self.assertIs(is_most_agreeing(book, ((*some[:-1], worse), lots)), False)
            for value in NOTHING:
                self.assertIs(is_most_agreeing(book, value), False)

    def test_books_that_are_not_paired(self):
        # The judge asks for no pairs.
        self.assertIs(is_most_agreeing(LOOSE, (((0, (0,)), (2, (0,))), ((0, 1),))), True)
        self.assertIs(is_most_agreeing(LOOSE, (((1, (1,)), (2, (0,))), ((0, 1),))), True)
        self.assertIs(is_most_agreeing(LOOSE, (((0, (0,)),), ((0, 1),))), False)
        self.assertIs(is_most_agreeing(CHAIN, (((0, (0, 1)), (1, (1, 1)), (2, (1,))), ())), True)
        for book in (LOOSE, CHAIN):
            self.assertEqual(caught(Refused, most_agreeing, book).reason, ("pairs",))


class WithOperators(unittest.TestCase):
    def test_outcomes_that_can_come(self):
        fewer = 0
        for book, right in HIDDEN:
            self.assertTrue(own_are_right(book, right))
            for s in range(len(book.sayings)):
                wanted = tuple(bits for bits in own_outcomes(book, s) if own_can_come(book, right, (s, bits)))
                self.assertEqual(outcomes_by(book, right, s), wanted)
                fewer += len(wanted) < len(own_outcomes(book, s))
        self.assertGreater(fewer, 10)

    def test_which_bar_one_another_and_the_chances(self):
        seen = set()
        for book, right in HIDDEN:
            some = [one for one in all_outcomes(book) if own_can_come(book, right, one)]
            for one, other in CHANCE.sample(list(product(some, repeat=2)), min(30, len(some) ** 2)):
                wanted = own_bar(book, right, one, other)
                agree = own_agree(book, one, other)
                seen.add((wanted, agree))
                self.assertIs(do_bar(book, right, one, other), wanted)
                # Those that do not agree bar one another.
                self.assertTrue(agree or wanted)
                found = both_chance(book, right, one, other)
                self.assertEqual(found == (0, 1), wanted)
                self.assertEqual(found[0], 0 if wanted else 1)
        self.assertEqual(seen, {(True, True), (True, False), (False, True)})

    def test_chances_sum_to_one_and_are_those_of_shared_pairs(self):
        for book, right in HIDDEN:
            for _ in range(3):
                s, t = CHANCE.randrange(len(book.sayings)), CHANCE.randrange(len(book.sayings))
                row, more = [[right[e] for e in book.sayings[at][0]] for at in (s, t)]
                come = pair_outcomes(tuple(row), tuple(mirrored(operator) for operator in more))
                total = Fraction(0)
                for bits in outcomes_by(book, right, s):
                    for other in outcomes_by(book, right, t):
                        found = both_chance(book, right, (s, bits), (t, other))
                        total += Fraction(*found)
                        self.assertEqual(found, (1, len(come)) if (bits, other) in come else (0, 1))
                self.assertEqual(total, 1)

    def test_where_no_signs_are_right_two_bar_one_another(self):
        for book, right in ((SQUARE, LETTERS), (PENTAGRAM, TEN)):
            for _ in range(60):
                some = [(s, CHANCE.choice(outcomes_by(book, right, s))) for s in range(len(book.sayings))]
                self.assertTrue(any(do_bar(book, right, one, other) for one, other in combinations(some, 2)))
        # Without one saying none need to.
        some, _ = most_agreeing(SQUARE)
        self.assertFalse(any(do_bar(SQUARE, LETTERS, one, other) for one, other in combinations(some, 2)))

    def test_outcomes_that_cannot_come(self):
        for book, right in HIDDEN:
            barred = [one for one in all_outcomes(book) if not own_can_come(book, right, one)]
            fine = [one for one in all_outcomes(book) if own_can_come(book, right, one)]
            for one in barred[:6]:
                for call in (do_bar, both_chance):
                    caught(InvalidOperation, call, book, right, one, fine[0])
                    caught(InvalidOperation, call, book, right, fine[0], one)

    def test_speed(self):
        book = Book(24, tuple((tuple(range(8 * (k % 3), 8 * (k % 3) + 8)), 0) for k in range(16)))
        row = tuple("+" + "I" * (e % 8) + "Z" + "I" * (11 - e % 8) for e in range(7))
        last = "+" + "Z" * 7 + "I" * 5
        right = (*row, last) * 3
        self.assertTrue(own_are_right(book, right))
        begun = perf_counter()
        self.assertEqual(len(outcomes_by(book, right, 0)), 128)
        self.assertEqual(both_chance(book, right, (0, (0,) * 8), (1, (0,) * 8)), (1, 2 ** 7))
        self.assertIs(do_bar(book, right, (0, (0,) * 8), (1, (1,) * 8)), True)
        self.assertLess(perf_counter() - begun, 1)
        some = operators_or_bar(FREE)[1]
        self.assertEqual(len(outcomes_by(FREE, some, 0)), 1)


class NoneOfTheseIsTrue(unittest.TestCase):
    def test_agreeing_outcomes_that_bar_one_another(self):
        book, right = Book(4, (((0, 1), 0), ((2, 3), 0))), ("+X",) * 4
        self.assertEqual([do_agree(book, (0, (0, 0)), (1, (1, 1))), do_bar(book, right, (0, (0, 0)), (1, (1, 1)))], [True, True])
        self.assertEqual([both_chance(book, right, (0, (0, 0)), (1, bits)) for bits in ((0, 0), (1, 1))], [(1, 2), (0, 1)])

    def test_a_book_in_which_more_than_one_is_missing(self):
        book = beside(TRIANGLE, TRIANGLE)
        self.assertEqual(len(most_agreeing(book)[0]), 4)

    def test_outcomes_that_cannot_come_for_plain_signs(self):
        even = bent(TRIANGLE, 0)
        self.assertEqual([outcomes_of(even, 1), outcomes_by(even, ("+I", "-I", "+I"), 1)], [((0, 0), (1, 1)), ((0, 0),)])


class WrongArguments(unittest.TestCase):
    INDICES = (None, True, False, -1, 6, LONG, LONGEST, "0", (), (0,), [0], {})

    def test_wrong_arguments(self):
        book = {0: (InvalidBook, NO_BOOK)}
        no_outcome = (*NOTHING, (0, (0, 0)), (0, (0, 0, 1)), (6, (0, 0, 0)), [0, (0, 0, 0)], (0, [0, 0, 0]), (True, (0, 0, 0)), (0, (0, 0, 0), 0))
        one, other = (0, (0, 0, 0)), (3, (0, 1, 1))
        two = {**book, 1: (InvalidOperation, no_outcome), 2: (InvalidOperation, no_outcome)}
        right = {**book, 1: (InvalidOperator, (*NOTHING, LETTERS[1:], list(LETTERS), (*LETTERS, "+II"), (*LETTERS[1:], "+X"), LETTERS[0]))}
        both = {**right, 2: (InvalidOperation, no_outcome), 3: (InvalidOperation, no_outcome)}
        signs = (0,) * 9
        for call, good, bad in (
                (is_outcome, (SQUARE, None), book), (outcomes_of, (SQUARE, 0), {**book, 1: (InvalidNumber, self.INDICES)}), (do_agree, (SQUARE, one, other), two),
                (signs_telling, (SQUARE, (one,)), {**book, 1: (InvalidOperation, (*[value for value in NOTHING if value != ()], one, [one], (one, None), (one, (0, (0, 0)))))}),
                (is_pick, (SQUARE, None), book), (pick_by, (bent(SQUARE, 5), signs), {**book, 1: (InvalidOperation, (*NOTHING, list(signs), signs[1:], (1, *signs[1:]), (False,) * 9))}),
                (pick_count, (SQUARE,), book), (pick_or_lot, (SQUARE,), book), (is_pick_or_lot, (SQUARE, None), book), (most_agreeing, (SQUARE,), book),
                (is_most_agreeing, (SQUARE, None), book), (outcomes_by, (SQUARE, LETTERS, 0), {**right, 2: (InvalidNumber, self.INDICES)}),
                (do_bar, (SQUARE, LETTERS, one, other), both), (both_chance, (SQUARE, LETTERS, one, other), both)):
            check_errors(call, good, bad)

    def test_operators_that_are_not_right_come_behind_all_others(self):
        wrong = (negated(LETTERS[0]), *LETTERS[1:])
        caught(InvalidOperation, outcomes_by, SQUARE, wrong, 0)
        self.assertEqual(caught(InvalidNumber, outcomes_by, SQUARE, wrong, 6).given, 6)
        for call in (do_bar, both_chance):
            caught(InvalidOperation, call, SQUARE, wrong, (0, (0, 0, 0)), (3, (0, 1, 1)))
            caught(InvalidOperator, call, SQUARE, wrong[1:], None, None)

    def test_operators_that_are_not_right_elsewhere(self):
        wrong = (*LETTERS[:8], negated(LETTERS[8]))
        for one in ((0, (0, 0, 0)), (1, (0, 1, 1))):
            for call in (do_bar, both_chance):
                caught(InvalidOperation, call, SQUARE, wrong, one, (3, (0, 1, 1)))
        self.assertEqual(len(outcomes_by(SQUARE, LETTERS, 0)), 4)
        caught(InvalidOperation, outcomes_by, SQUARE, wrong, 0)

    def test_nothing_is_changed_and_equal_calls_return_equal_results(self):
        for book in PAIRED[:10]:
            self.assertEqual(most_agreeing(book), most_agreeing(book))
            self.assertEqual(pick_or_lot(book), pick_or_lot(book))


if __name__ == "__main__":
    unittest.main()
