"""Promises [17.1] to [17.5] and the words [0.14]: plans with plain signs, the questions that they lose, and mixes."""

import unittest
from fractions import Fraction
from itertools import product
from random import Random
from time import perf_counter

from askedapart.errors import InvalidBits, InvalidBook, InvalidOperation, Refused, TooMany
from askedapart.play.games import (best_mix, best_plan, fewest_lost, is_best_mix, is_best_plan, is_losing, is_plan, least_chance, losing,
                                   lost, plan_by, questions)
from askedapart.say.books import Book, beside, is_paired, pieces
from book_samples import BOTH, barred_book, bent, drawn_longer, paired_of, planar_book
from graph_samples import LADDER, check_errors
from samples import (CHAIN, LARGE, LONG, LONGEST, NOTHING, PENTAGRAM, SQUARE, TRIANGLE, all_bits, caught, deep, random_paired,
                     small_books)

CHANCE = Random(17)
LOOSE = Book(2, (((0,), 0), ((0,), 1), ((1,), 0)))
NO_BOOK = tuple(value for value in NOTHING if not isinstance(value, Book))
SMALL = [book for book in small_books(150, seed=17)] + [random_paired(CHANCE, 4, 5) for _ in range(60)] + [LOOSE, TRIANGLE, CHAIN]
SMALL = [book for book in SMALL if sum(len(members) - 1 for members, _ in book.sayings) + book.many <= 11]
LONE = [barred_book(CHANCE, drawn=2, more=k % 3, further=k % 3) for k in range(6)] + [planar_book(CHANCE, 8, 14)[0] for _ in range(8)]
LONE += [SQUARE, PENTAGRAM, TRIANGLE, drawn_longer(CHANCE, TRIANGLE, 5), Book(1, (((0,), 0), ((0,), 1))), Book(1, (((0,), 1), ((0,), 0)))]
SEVERAL = [random_paired(CHANCE, 9, 16) for _ in range(40)] + [BOTH, beside(TRIANGLE, TRIANGLE), beside(SQUARE, bent(SQUARE, 0)), LARGE]


def rows_of(saying):
    """All rows of bits for a saying with the sum of its bit."""
    members, bit = saying
    return [row for row in all_bits(len(members)) if sum(row) % 2 == bit]


def own_questions(book):
    """By the words of [0.14]."""
    return tuple(sorted((s, e) for s, (members, _) in enumerate(book.sayings) for e in members))


def own_lost(book, plan):
    """By the words of [17.1]."""
    rows, bits = plan
    return tuple((s, e) for s, e in own_questions(book) if dict(zip(book.sayings[s][0], rows[s]))[e] != bits[e])


def all_plans(book):
    """All plans of a small book."""
    return [(tuple(rows), bits) for rows in product(*[rows_of(saying) for saying in book.sayings]) for bits in all_bits(book.many)]


def some_plan(book):
    """Whatever plan."""
    return tuple(CHANCE.choice(rows_of(saying)) for saying in book.sayings), tuple(CHANCE.randrange(2) for _ in range(book.many))


def near_plan(book, plan):
    """The plan with the bits of two members of a saying, or of one unknown, turned."""
    rows, bits = plan
    if CHANCE.randrange(3) == 0:
        e = CHANCE.randrange(book.many)
        return rows, (*bits[:e], 1 - bits[e], *bits[e + 1:])
    s = CHANCE.randrange(len(rows))
    some = CHANCE.sample(range(len(rows[s])), min(2, len(rows[s]))) if len(rows[s]) > 1 else []
    row = tuple(bit ^ (at in some) for at, bit in enumerate(rows[s]))
    return (*rows[:s], row, *rows[s + 1:]), bits


def own_least(book, mix):
    """The least chance to win a question, as a fraction."""
    played = sum(weight for weight, _ in mix)
    chances = []
    for question in own_questions(book):
        chances.append(Fraction(sum(weight for weight, plan in mix if question not in own_lost(book, plan)), played))
    return min(chances)


def odd_pieces(book):
    """How many pieces are odd."""
    return sum(sum(book.sayings[s][1] for s in lot) % 2 for lot in pieces(book))


class Examples(unittest.TestCase):
    def test_examples(self):
        self.assertEqual([questions(TRIANGLE)[:3], plan_by(TRIANGLE, (0, 0, 0))],
                         [((0, 0), (0, 1), (1, 0)), (((0, 0), (0, 0), (1, 0)), (0, 0, 0))])
        self.assertEqual([lost(TRIANGLE, plan_by(TRIANGLE, (0, 0, 0))), fewest_lost(SQUARE), least_chance(SQUARE, best_mix(SQUARE))],
                         [((2, 1),), 1, (17, 18)])
        self.assertEqual([fewest_lost(LOOSE), least_chance(TRIANGLE, ((1, plan_by(TRIANGLE, (0, 0, 0))),))], [1, (0, 1)])


class Plans(unittest.TestCase):
    def test_questions(self):
        for book in SMALL + LONE + SEVERAL:
            self.assertEqual(questions(book), own_questions(book))
        eights = Book(24, tuple((tuple(range(8 * (k % 3), 8 * (k % 3) + 8)), k % 2) for k in range(16)))
        self.assertEqual(len(questions(eights)), 128)

    def test_plans_and_what_they_lose(self):
        for book in SMALL[:40]:
            plans = all_plans(book)
            for plan in CHANCE.sample(plans, min(60, len(plans))):
                self.assertIs(is_plan(book, plan), True)
                self.assertEqual(lost(book, plan), own_lost(book, plan))
        for book in LONE + SEVERAL:
            for _ in range(5):
                plan = some_plan(book)
                self.assertIs(is_plan(book, plan), True)
                self.assertEqual(lost(book, plan), own_lost(book, plan))

    def test_rows_with_a_wrong_sum_are_no_plan(self):
        for book in SMALL + LONE:
            rows, bits = some_plan(book)
            for s, row in enumerate(rows):
                at = CHANCE.randrange(len(row))
                worse = (*row[:at], 1 - row[at], *row[at + 1:])
                for some in (worse, row[1:], (*row, 0), list(row), None, row[0], tuple(bool(bit) for bit in row)):
                    self.assertIs(is_plan(book, ((*rows[:s], some, *rows[s + 1:]), bits)), False)
            for worse in (bits[1:], (*bits, 0), list(bits), None, tuple(bool(bit) for bit in bits), tuple(2 + bit for bit in bits)):
                self.assertIs(is_plan(book, (rows, worse)), False)
            for worse in ((rows,), (rows, bits, ()), [rows, bits], (bits, rows), (list(rows), bits), (rows[1:], bits), (rows + rows[:1], bits)):
                self.assertIs(is_plan(book, worse), False)

    def test_plan_by_signs(self):
        for book in SMALL + LONE + SEVERAL:
            for _ in range(6):
                signs = tuple(CHANCE.randrange(2) for _ in range(book.many))
                rows, bits = plan_by(book, signs)
                self.assertEqual(bits, signs)
                false = [s for s, (members, bit) in enumerate(book.sayings) if sum(signs[e] for e in members) % 2 != bit]
                self.assertEqual(own_lost(book, (rows, bits)), tuple((s, book.sayings[s][0][0]) for s in false))
                self.assertTrue(all(row in rows_of(saying) for row, saying in zip(rows, book.sayings)))

    def test_odd_and_even_numbers_of_lost_questions(self):
        # [17.2]: in a saying that is false for the bits an odd number of questions is lost, in others an even one.
        for book in SMALL[:80] + LONE:
            for _ in range(5):
                plan = some_plan(book)
                for s, (members, bit) in enumerate(book.sayings):
                    false = sum(plan[1][e] for e in members) % 2 != bit
                    self.assertEqual(sum(at == s for at, _ in lost(book, plan)) % 2, false)


class Fewest(unittest.TestCase):
    def test_against_all_plans(self):
        words = set()
        for book in SMALL:
            counts = [(len(own_lost(book, plan)), plan) for plan in all_plans(book)]
            least = min(count for count, _ in counts)
            words.add((least, is_paired(book), len(pieces(book)) > 1))
            self.assertEqual(fewest_lost(book), least)
            found = best_plan(book)
            self.assertEqual(len(own_lost(book, found)), least)
            self.assertIs(is_best_plan(book, found), True)
            for count, plan in CHANCE.sample(counts, min(40, len(counts))) + [pair for pair in counts if pair[0] == least][:40]:
                self.assertIs(is_best_plan(book, plan), count == least)
        self.assertTrue({(0, True, False), (2, True, True), (1, True, False), (1, False, False), (0, False, False), (1, False, True)} <= words, words)
        self.assertTrue(any(least > 1 for least, _, _ in words))

    def test_paired_books(self):
        for book in LONE + SEVERAL:
            self.assertEqual(fewest_lost(book), odd_pieces(book))
            found = best_plan(book)
            self.assertEqual(len(own_lost(book, found)), odd_pieces(book))
            judged = set()
            for _ in range(12):
                found = near_plan(book, found)
                judged.add(len(own_lost(book, found)) == odd_pieces(book))
                self.assertIs(is_best_plan(book, found), len(own_lost(book, found)) == odd_pieces(book))
        self.assertGreater(max(odd_pieces(book) for book in SEVERAL), 1)

    def test_twelve_unknowns_and_thirteen(self):
        members = [tuple(sorted(CHANCE.sample(range(12), 8))) for _ in range(13)] + [tuple(range(8)), tuple(range(4, 12)), (11,)]
        book = Book(12, tuple((row, CHANCE.randrange(2)) for row in members))
        begun = perf_counter()
        least = fewest_lost(book)
        self.assertLess(perf_counter() - begun, 2)
        self.assertEqual(least, min(sum(sum(bits[e] for e in row) % 2 != bit for row, bit in book.sayings) for bits in all_bits(12)))
        self.assertEqual(len(own_lost(book, best_plan(book))), least)
        more = Book(13, (*book.sayings[:15], ((12,), 0)))
        for call, given in ((fewest_lost, ()), (best_plan, ()), (is_best_plan, (None,)), (is_best_plan, (some_plan(more),))):
            self.assertEqual(caught(TooMany, call, more, *given).limit, 12)
        self.assertEqual(fewest_lost(LARGE), 1)
        self.assertEqual(fewest_lost(paired_of(LADDER, (1,) * 16)), 0)

    def test_the_judged_value_is_never_an_error(self):
        right = best_plan(SQUARE)
        for value in (*NOTHING, (right[0],), (right[0], None), (None, right[1]), (*right, ()), [*right], right[0], (right[1], right[0]),
                      ((None,) * 6, right[1]), ((LONGEST,) * 6, right[1]), (right[0], (LONG,) * 9), (right[0], "0" * 9), deep(right, 5, tuple)):
            self.assertIs(is_plan(SQUARE, value), False)
            self.assertIs(is_best_plan(SQUARE, value), False)
            self.assertIs(is_losing(SQUARE, (0, 0), value), False)
            self.assertIs(is_best_mix(SQUARE, value), False)
            self.assertIs(is_best_mix(SQUARE, ((1, value),)), False)


class Losing(unittest.TestCase):
    def test_each_question(self):
        for book in LONE:
            for question in own_questions(book):
                plan = losing(book, question)
                self.assertEqual(own_lost(book, plan), (question,))
                self.assertIs(is_plan(book, plan), True)
                self.assertIs(is_losing(book, question, plan), True)
                other = CHANCE.choice(own_questions(book))
                self.assertIs(is_losing(book, other, plan), other == question)

    def test_all_plans_of_small_books(self):
        judged = []
        for book in [book for book in SMALL if is_paired(book) and len(pieces(book)) == 1 and odd_pieces(book) == 1][:14]:
            for plan in all_plans(book):
                for question in own_questions(book):
                    wanted = own_lost(book, plan) == (question,)
                    judged.append(wanted)
                    self.assertIs(is_losing(book, question, plan), wanted)
        self.assertGreater(judged.count(True), 50)
        self.assertGreater(judged.count(False), 50)


class Mixes(unittest.TestCase):
    def test_least_chances(self):
        for book in LONE:
            for _ in range(4):
                mix = tuple((CHANCE.randint(1, 1000), some_plan(book) if CHANCE.randrange(2) else losing(book, CHANCE.choice(own_questions(book))))
                            for _ in range(CHANCE.randint(1, 12)))
                top, bottom = least_chance(book, mix)
                wanted = own_least(book, mix)
                self.assertEqual((top, bottom), (wanted.numerator, wanted.denominator))
                self.assertLessEqual(wanted, Fraction(len(own_questions(book)) - 1, len(own_questions(book))))

    def test_best_mixes(self):
        for book in LONE:
            many = len(own_questions(book))
            mix = best_mix(book)
            self.assertEqual(own_least(book, mix), Fraction(many - 1, many))
            self.assertEqual(least_chance(book, mix), (many - 1, many))
            self.assertIs(is_best_mix(book, mix), True)
            self.assertEqual(sorted(own_lost(book, plan) for _, plan in mix), [(question,) for question in own_questions(book)])

    def test_best_mixes_that_the_package_would_not_tell(self):
        judged = []
        for book in LONE:
            plans = [losing(book, question) for question in own_questions(book)]
            other = [self.another(book, plan) for plan in plans]
            values = [tuple((7, plan) for plan in plans), tuple((1000, plan) for plan in plans[::-1]), tuple((3, plan) for plan in other),
                      tuple((2, plan) for plan in plans) + tuple((5, plan) for plan in other),
                      tuple((1 + k % 4, plan) for k, plan in enumerate(plans)) + tuple((5 - k % 4, plan) for k, plan in enumerate(other))]
            for value in values:
                if len(value) <= 400:
                    self.assertIs(is_best_mix(book, value), True)
                at = CHANCE.randrange(len(value))
                for worse in ((*value[:at], (value[at][0] + 1, value[at][1]), *value[at + 1:]), value[:at] + value[at + 1:], value + value[:1],
                              (*value[:at], (value[at][0], some_plan(book)), *value[at + 1:])):
                    many = len(own_questions(book))
                    right = worse != () and all(weight <= 1000 for weight, _ in worse) and own_least(book, worse) == Fraction(many - 1, many)
                    judged.append(right)
                    self.assertIs(is_best_mix(book, worse), right)
        self.assertIn(False, judged)

    def another(self, book, plan):
        """A plan that loses the same question, with other bits: all signs along right ones of the even book turn."""
        (question,) = own_lost(book, plan)
        for _ in range(60):
            turn = [CHANCE.randrange(2) for _ in range(book.many)]
            if all(sum(turn[e] for e in members) % 2 == 0 for members, _ in book.sayings):
                rows = tuple(tuple(bit ^ turn[e] for e, bit in zip(members, row)) for (members, _), row in zip(book.sayings, plan[0]))
                found = (rows, tuple(bit ^ turn[e] for e, bit in enumerate(plan[1])))
                self.assertEqual(own_lost(book, found), (question,))
                return found
        return plan

    def test_bounds(self):
        plans = [losing(TRIANGLE, question) for question in own_questions(TRIANGLE)]
        full = tuple((1 + k % 1000, plans[k % 6]) for k in range(400))
        self.assertEqual(least_chance(TRIANGLE, full), self.told(own_least(TRIANGLE, full)))
        self.assertEqual(least_chance(TRIANGLE, ((1000, plans[0]),)), (0, 1))
        caught(InvalidOperation, least_chance, TRIANGLE, full + full[:1])
        self.assertIs(is_best_mix(TRIANGLE, tuple((3, plans[k % 6]) for k in range(396))), True)
        self.assertIs(is_best_mix(TRIANGLE, tuple((3, plans[k % 6]) for k in range(402))), False)
        for weight in (0, -1, 1001, True, None, "1", LONG):
            caught(InvalidOperation, least_chance, TRIANGLE, ((weight, plans[0]),))
            self.assertIs(is_best_mix(TRIANGLE, tuple((weight, plan) for plan in plans)), False)

    def told(self, fraction):
        """The pair of a fraction."""
        return fraction.numerator, fraction.denominator

    def test_speed(self):
        book = paired_of(LADDER, (1, *(0,) * 15))
        begun = perf_counter()
        mix = best_mix(book)
        self.assertEqual(len(mix), 48)
        self.assertIs(is_best_mix(book, (mix * 9)[:384]), True)
        self.assertEqual(least_chance(book, mix), (47, 48))
        self.assertLess(perf_counter() - begun, 3)


class NoneOfTheseIsTrue(unittest.TestCase):
    def test_a_question_that_no_best_plan_loses(self):
        lost_ones = {question for plan in all_plans(LOOSE) if len(own_lost(LOOSE, plan)) == 1 for question in own_lost(LOOSE, plan)}
        self.assertEqual(lost_ones, {(0, 0), (1, 0)})
        for plan in all_plans(LOOSE):
            self.assertEqual(is_best_plan(LOOSE, plan), len(own_lost(LOOSE, plan)) == 1)

    def test_a_mix_of_best_plans_that_is_not_best(self):
        mix = ((1, losing(TRIANGLE, (0, 0))), (1, losing(TRIANGLE, (0, 1))))
        self.assertEqual(least_chance(TRIANGLE, mix), (1, 2))
        self.assertIs(is_best_mix(TRIANGLE, mix), False)


class WrongArguments(unittest.TestCase):
    QUESTIONS = (*[value for value in NOTHING if value not in ((0, 0), (0, 1), (2, 1))], (0, 2), (0, 3), (2, 0), (3, 0), (-1, 0), (0, -1), (0, True), (False, 0),
                 [0, 0], (0,), (0, 0, 0), ((0, 0),), (LONG, 0), (0, LONGEST), ("0", 0))

    def test_wrong_arguments(self):
        book = {0: (InvalidBook, NO_BOOK)}
        plan = best_plan(TRIANGLE)
        plans = {**book, 1: (InvalidOperation, (*NOTHING, (plan[0], (0, 0)), [*plan], (plan[0], (0, 0, True)), plan[0]))}
        signs = {**book, 1: (InvalidBits, (*NOTHING, (0, 0), (0, 0, 0, 0), (0, 0, 2), (0, 0, True), [0, 0, 0], "000"))}
        asked = {**book, 1: (InvalidOperation, self.QUESTIONS)}
        mix = best_mix(TRIANGLE)
        mixes = {**book, 1: (InvalidOperation, (*NOTHING, list(mix), mix[0], (mix,), (*mix, None), (*mix, (1,)), (*mix, (0, plan)),
                                                (*mix, [1, plan]), (*mix, (plan, 1)), (*mix, (1, plan, 1))))}
        for call, good, bad in (
                (questions, (TRIANGLE,), book), (is_plan, (TRIANGLE, None), book), (lost, (TRIANGLE, plan), plans), (plan_by, (TRIANGLE, (0, 0, 0)), signs),
                (fewest_lost, (TRIANGLE,), book), (best_plan, (TRIANGLE,), book), (is_best_plan, (TRIANGLE, None), book),
                (losing, (TRIANGLE, (0, 0)), asked), (is_losing, (TRIANGLE, (0, 0), None), asked), (least_chance, (TRIANGLE, mix), mixes),
                (best_mix, (TRIANGLE,), book), (is_best_mix, (TRIANGLE, None), book)):
            check_errors(call, good, bad)

    def test_what_comes_then_in_its_sequence(self):
        for book, reason in ((CHAIN, "pairs"), (LOOSE, "pairs"), (beside(CHAIN, CHAIN), "pairs"), (BOTH, "pieces"), (beside(TRIANGLE, TRIANGLE), "pieces"),
                             (beside(TRIANGLE, bent(TRIANGLE, 0)), "pieces"), (bent(SQUARE, 0), "even"), (bent(TRIANGLE, 1), "even")):
            question, mix = own_questions(book)[0], ((1, some_plan(book)),)
            for call, more in ((losing, (question,)), (is_losing, (question, None)), (least_chance, (mix,)), (best_mix, ()), (is_best_mix, (mix,))):
                self.assertEqual(caught(Refused, call, book, *more).reason, (reason,))
            caught(InvalidOperation, losing, book, (0, book.many))
            caught(InvalidOperation, is_losing, book, None, None)
            caught(InvalidOperation, least_chance, book, ())
        wide = Book(13, (((0, 1, 2, 3, 4, 5, 6), 0), ((6, 7, 8, 9, 10, 11, 12), 1)))
        self.assertEqual(caught(Refused, losing, wide, (0, 0)).reason, ("pairs",))
        self.assertEqual(caught(Refused, best_mix, wide).reason, ("pairs",))

    def test_nothing_is_changed_and_equal_calls_return_equal_results(self):
        for book in LONE[:6]:
            sayings = book.sayings
            self.assertEqual((best_mix(book), best_plan(book)), (best_mix(book), best_plan(book)))
            self.assertEqual(book.sayings, sayings)


if __name__ == "__main__":
    unittest.main()
