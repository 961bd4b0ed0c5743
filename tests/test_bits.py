"""Promises [1.1] to [1.7], with the conventions [0.1] to [0.6]: rows of bits."""

import unittest
from random import Random

from askedapart.base import bits as module
from askedapart.base.bits import (are_rows, basis, bits_product, bits_sum, is_bits, is_solved, is_sum_or_test, kernel,
                                  meet, solution_count, solutions, solved, span_rank, sum_or_test, summed)
from askedapart.errors import InvalidBits, InvalidOperation, TooMany
from samples import (LONG, NOTHING, all_bits, all_picks, all_tuples, caught, is_basis_form, own_product, own_span,
                     own_sum, random_rows)

CYCLE = ((1, 1, 0), (0, 1, 1), (1, 0, 1))
UNIT = tuple(tuple(int(k == at) for at in range(64)) for k in range(64))
NO_ROWS = (*[value for value in NOTHING if value not in ((),)], (), (0,), (0, 1), ((),), ((0,), (0, 1)), ((0, 1), (0,)),
           ((0,), 0), (0, (0,)), ((0,), ()), ((2,),), ((0, True),), ((0,), (False,)), ((0,), [0]), [(0,)], ((0, LONG),),
           ((0,),) * 65, ((0,) * 65,), (((0,),),), "01", ((0,), "0"))
NO_ROW = (*NOTHING, (), (2,), (0, 2), (0,) * 65, (1,) * 66, (0, 1, True), (0, 1, [1]), [0, 1], ((0, 1),), "0")


def small_rows():
    """All rows of 1 to 3 bits, 1 or 2 of them, and some of three and four rows."""
    found = []
    for length in (1, 2, 3):
        rows = all_bits(length)
        found += [(row,) for row in rows] + [(one, other) for one in rows for other in rows]
    chance = Random(7)
    found += [random_rows(chance, 3, 3) for _ in range(25)] + [random_rows(chance, 4, 3) for _ in range(10)]
    found += [random_rows(chance, 3, 4) for _ in range(10)] + [CYCLE]
    return found


SMALL = small_rows()


def own_answers(rows, goal):
    """All x that have the products of the goal."""
    return tuple(x for x in all_bits(len(rows[0])) if tuple(own_product(row, x) for row in rows) == goal)


def is_own_solved(rows, goal, value):
    """By the words of [1.4]."""
    word, found = value
    if word == "bits":
        return found in own_answers(rows, goal)
    ascending = found in all_picks(len(rows))
    return ascending and not any(own_sum(rows, found, len(rows[0]))) and sum(goal[k] for k in found) % 2 == 1


def is_own_sum_or_test(rows, row, value):
    """By the words of [1.5]."""
    word, found = value
    if word == "sum":
        return found in all_picks(len(rows)) and own_sum(rows, found, len(row)) == row
    if len(found) != len(row) or not set(found) <= {0, 1}:
        return False
    return not any(own_product(other, found) for other in rows) and own_product(row, found) == 1


def has_own_spans(rows, more, found):
    """Whether what is found is a basis, in the told form, of all rows that are in both spans."""
    length = len(rows[0])
    common = own_span(rows, length) & own_span(more, length)
    return is_basis_form(found) and own_span(found, length) == common


class Examples(unittest.TestCase):
    def test_examples(self):
        self.assertEqual([summed(CYCLE, (0, 1)), bits_product(CYCLE[0], CYCLE[1]), basis(CYCLE), span_rank(CYCLE),
                          kernel(CYCLE)], [(1, 0, 1), 1, ((1, 0, 1), (0, 1, 1)), 2, ((1, 1, 1),)])
        self.assertEqual([solved(CYCLE, (0, 0, 1)), solution_count(CYCLE, (0, 1, 1)), solutions(CYCLE, (0, 1, 1))],
                         [("bar", (0, 1, 2)), 2, ((0, 0, 1), (1, 1, 0))])
        self.assertEqual([is_sum_or_test(CYCLE, (1, 1, 1), ("test", (1, 1, 1))), sum_or_test(CYCLE[:2], (1, 0, 1)),
                          is_solved(CYCLE, (0, 1, 1), ("bits", (1, 1, 0)))], [True, ("sum", (0, 1)), True])
        self.assertEqual([meet(CYCLE, ((1, 1, 1), (1, 1, 0))), kernel(((1, 0), (0, 1))), is_bits((True,))],
                         [((1, 1, 0),), (), False])
        caught(InvalidOperation, solved, CYCLE, (0, 1))

    def test_constants(self):
        self.assertEqual((module.MOST_BITS, module.MOST_ROWS, module.MOST_SOLUTIONS), (64, 64, 1024))


class Forms(unittest.TestCase):
    def test_rows_of_bits(self):
        for length in (1, 2, 3, 4):
            self.assertTrue(all(is_bits(row) is True for row in all_bits(length)))
        self.assertIs(is_bits((1,) * 64), True)
        for value in NO_ROW:
            self.assertIs(is_bits(value), False, repr(value)[:80])

    def test_tuples_of_rows(self):
        for rows in (*SMALL, UNIT, ((0,),) * 64, ((0,) * 64,), ((1,) * 64,) * 64):
            self.assertIs(are_rows(rows), True)
        for value in NO_ROWS:
            self.assertIs(are_rows(value), False, repr(value)[:80])


class Sums(unittest.TestCase):
    def test_sum_and_product_of_two(self):
        for length in (1, 2, 3, 4):
            for one in all_bits(length):
                for other in all_bits(length):
                    self.assertEqual(bits_sum(one, other), tuple((a + b) % 2 for a, b in zip(one, other)))
                    self.assertEqual(bits_product(one, other), own_product(one, other))

    def test_long_rows(self):
        chance = Random(3)
        for _ in range(50):
            one, other = random_rows(chance, 2, 64)
            self.assertEqual(bits_sum(one, other), own_sum((one, other), (0, 1), 64))
            self.assertEqual(bits_product(one, other), own_product(one, other))
        self.assertEqual(bits_product((1,) * 64, (1,) * 64), 0)
        self.assertEqual(bits_product((1,) * 63 + (0,), (1,) * 64), 1)
        self.assertEqual(bits_product((1,) + (0,) * 63, (1,) * 64), 1)

    def test_sums_of_picks(self):
        for rows in SMALL:
            for pick in all_picks(len(rows)):
                self.assertEqual(summed(rows, pick), own_sum(rows, pick, len(rows[0])))
        self.assertEqual(summed(UNIT, ()), (0,) * 64)
        self.assertEqual(summed(UNIT, tuple(range(64))), (1,) * 64)
        self.assertEqual(summed(((1, 0),) * 64, tuple(range(64))), (0, 0))


class Spans(unittest.TestCase):
    def test_basis_and_rank(self):
        for rows in SMALL:
            length, found = len(rows[0]), basis(rows)
            self.assertTrue(is_basis_form(found), found)
            self.assertEqual(own_span(found, length), own_span(rows, length))
            self.assertEqual(len(own_span(rows, length)), 2 ** span_rank(rows))
            self.assertEqual(len(found), span_rank(rows))
            self.assertIs(type(found), tuple)

    def test_the_basis_hangs_on_the_span_alone(self):
        told = {}
        for rows in SMALL:
            span = (len(rows[0]), tuple(sorted(own_span(rows, len(rows[0])))))
            self.assertEqual(told.setdefault(span, basis(rows)), basis(rows))
            self.assertEqual(basis(rows[::-1] + rows), basis(rows))

    def test_kernel(self):
        for rows in SMALL:
            length, found = len(rows[0]), kernel(rows)
            barred = {x for x in all_bits(length) if not any(own_product(row, x) for row in rows)}
            self.assertTrue(is_basis_form(found), found)
            self.assertEqual(own_span(found, length), barred)
            self.assertEqual(len(found) + span_rank(rows), length)

    def test_edges(self):
        self.assertEqual(basis(((0,),)), ())
        self.assertEqual(span_rank(((0,),)), 0)
        self.assertEqual(kernel(((0,),)), ((1,),))
        self.assertEqual(kernel(((1,),)), ())
        self.assertEqual(basis(((0,) * 64,) * 64), ())
        self.assertEqual(kernel(((0,) * 64,)), UNIT)
        self.assertEqual((basis(UNIT), basis(UNIT[::-1]), span_rank(UNIT), kernel(UNIT)), (UNIT, UNIT, 64, ()))
        self.assertEqual((basis(((1,) * 64,) * 64), span_rank(((1,) * 64,) * 64)), (((1,) * 64,), 1))
        self.assertEqual(span_rank(((1,),) * 64), 1)

    def test_large(self):
        chance = Random(11)
        for many, length in ((64, 64), (40, 64), (64, 40), (64, 1), (1, 64), (30, 30)):
            rows = random_rows(chance, many, length, chance.choice((2, 5, 20)))
            found, barred = basis(rows), kernel(rows)
            self.assertTrue(is_basis_form(found) and is_basis_form(barred))
            self.assertEqual(len(found) + len(barred), length)
            self.assertFalse(any(own_product(row, x) for row in rows for x in barred))
            for row in rows:
                heads = [k for k, other in enumerate(found) if row[other.index(1)]]
                self.assertEqual(own_sum(found, heads, length), row)

    def test_meet(self):
        chance = Random(5)
        for length in (1, 2):
            rows = [rows for rows in SMALL if len(rows[0]) == length]
            for one in rows:
                for other in rows:
                    self.assertTrue(has_own_spans(one, other, meet(one, other)))
        for _ in range(150):
            length = chance.randint(3, 5)
            one, other = random_rows(chance, chance.randint(1, 4), length), random_rows(chance, 3, length)
            found = meet(one, other)
            self.assertTrue(has_own_spans(one, other, found))
            both = span_rank(one + other) + len(found)
            self.assertEqual(both, span_rank(one) + span_rank(other))
        self.assertEqual(meet(UNIT, UNIT), UNIT)
        self.assertEqual(meet(UNIT, ((0,) * 64,)), ())
        self.assertEqual(meet(UNIT[:40], UNIT[20:]), UNIT[20:40])
        self.assertEqual(meet(((1, 1),), ((1, 1), (1, 1))), ((1, 1),))


class Solved(unittest.TestCase):
    def test_either_or(self):
        for rows in SMALL:
            for goal in all_bits(len(rows)):
                value, answers = solved(rows, goal), own_answers(rows, goal)
                self.assertEqual(value[0], "bits" if answers else "bar")
                self.assertTrue(is_own_solved(rows, goal, value), (rows, goal, value))
                self.assertIs(is_solved(rows, goal, value), True)
                self.assertEqual(solution_count(rows, goal), len(answers))
                self.assertEqual(solutions(rows, goal), answers)
                if answers:
                    self.assertEqual(len(answers), 2 ** (len(rows[0]) - span_rank(rows)))

    def test_the_judge_takes_every_right_value_and_no_other(self):
        for rows in SMALL[::3]:
            told = [("bits", x) for length in (1, 2, 3, 4) for x in all_bits(length)]
            told += [("bar", pick) for pick in all_tuples(len(rows), 3)]
            for goal in all_bits(len(rows)):
                for value in told:
                    wanted = is_own_solved(rows, goal, value)
                    self.assertIs(is_solved(rows, goal, value), wanted, (rows, goal, value))

    def test_the_judge_takes_anything_without_an_error(self):
        for value in (*NOTHING, ("bar", (0, 1, 2), 1), ("bar", (0, 0, 1, 2)), ("bar", (2, 1, 0)), ("bar", ((0, 1, 2),)),
                      ["bar", (0, 1, 2)], ("Bar", (0, 1, 2)), ("bar", [0, 1, 2]), ("bits", ()), ("bar", ())):
            self.assertIs(is_solved(CYCLE, (0, 0, 1), value), False, repr(value)[:80])
        self.assertIs(is_solved(CYCLE, (0, 1, 1), ("bits", (True, True, 0))), False)
        self.assertIs(is_solved(((1,), (0,)), (1, 1), ("bar", (True,))), False)
        self.assertIs(is_solved(((1,), (0,)), (1, 1), ("bar", (1,))), True)

    def test_large(self):
        chance = Random(13)
        for many, length in ((64, 64), (64, 20), (20, 64), (64, 1), (1, 64)) * 4:
            rows = random_rows(chance, many, length, chance.choice((2, 10, 30)))
            x = random_rows(chance, 1, length)[0]
            goal = tuple(own_product(row, x) for row in rows)
            for asked in (goal, random_rows(chance, 1, many)[0]):
                word, found = solved(rows, asked)
                self.assertIs(is_solved(rows, asked, (word, found)), True)
                if word == "bits":
                    self.assertEqual(tuple(own_product(row, found) for row in rows), asked)
                    self.assertEqual(solution_count(rows, asked), 2 ** (length - span_rank(rows)))
                else:
                    self.assertFalse(any(own_sum(rows, found, length)))
                    self.assertEqual(sum(asked[k] for k in found) % 2, 1)
                    self.assertEqual((solution_count(rows, asked), solutions(rows, asked)), (0, ()))
            self.assertEqual(solved(rows, goal)[0], "bits")

    def test_as_many_solutions_as_are_told_at_most(self):
        self.assertEqual(solution_count(((0,) * 64,), (0,)), 2 ** 64)
        self.assertEqual(solution_count(((0,) * 64,), (1,)), 0)
        self.assertEqual(solutions(((0,) * 64,), (1,)), ())
        self.assertEqual(solutions(((0,) * 10,), (0,)), tuple(all_bits(10)))
        self.assertEqual(len(solutions(UNIT[10:], (1,) * 54)), 1024)
        self.assertEqual(caught(TooMany, solutions, ((0,) * 11,), (0,)).limit, 1024)
        self.assertEqual(caught(TooMany, solutions, UNIT[11:], (1,) * 53).limit, 1024)
        self.assertEqual(solutions(UNIT, (1,) * 64), ((1,) * 64,))


class SumOrTest(unittest.TestCase):
    def test_either_or(self):
        for rows in SMALL:
            length = len(rows[0])
            for row in all_bits(length):
                value = sum_or_test(rows, row)
                self.assertEqual(value[0], "sum" if row in own_span(rows, length) else "test")
                self.assertTrue(is_own_sum_or_test(rows, row, value), (rows, row, value))
                self.assertIs(is_sum_or_test(rows, row, value), True)

    def test_the_judge_takes_every_right_value_and_no_other(self):
        for rows in SMALL[::3]:
            told = [("test", x) for length in (1, 2, 3, 4) for x in all_bits(length)]
            told += [("sum", pick) for pick in all_tuples(len(rows), 3)]
            for row in all_bits(len(rows[0])):
                for value in told:
                    wanted = is_own_sum_or_test(rows, row, value)
                    self.assertIs(is_sum_or_test(rows, row, value), wanted, (rows, row, value))

    def test_the_judge_takes_anything_without_an_error(self):
        for value in (*NOTHING, ("sum", (0, 1), ()), ("sum", (1, 0)), ("test", ()), ["sum", (0, 1)], ("sum", [0, 1]),
                      ("bits", (0, 1)), ("Sum", (0, 1)), ("sum", (0, 1, 1, 1)), ("sum", (False, 1))):
            self.assertIs(is_sum_or_test(CYCLE[:2], (1, 0, 1), value), False, repr(value)[:80])
        self.assertIs(is_sum_or_test(CYCLE, (1, 1, 1), ("test", (True, 1, 1))), False)
        self.assertIs(is_sum_or_test(CYCLE, (0, 0, 0), ("sum", ())), True)
        self.assertIs(is_sum_or_test(CYCLE, (0, 0, 0), ("sum", (0, 1, 2))), True)

    def test_large(self):
        chance = Random(17)
        for many, length in ((64, 64), (20, 64), (64, 30), (1, 64)) * 4:
            rows = random_rows(chance, many, length, chance.choice((2, 20)))
            pick = tuple(k for k in range(many) if chance.randrange(2))
            row = own_sum(rows, pick, length)
            word, found = sum_or_test(rows, row)
            self.assertEqual((word, own_sum(rows, found, length)), ("sum", row))
            other = random_rows(chance, 1, length)[0]
            word, found = sum_or_test(rows, other)
            self.assertIs(is_sum_or_test(rows, other, (word, found)), True)
            if word == "test":
                self.assertFalse(any(own_product(each, found) for each in rows))
                self.assertEqual(own_product(other, found), 1)
            else:
                self.assertEqual(own_sum(rows, found, length), other)


class NoneOfTheseIsTrue(unittest.TestCase):
    def test_unlike_rows_may_have_a_lesser_rank(self):
        self.assertEqual((len(set(CYCLE)), span_rank(CYCLE)), (3, 2))

    def test_more_bits_than_rows_need_not_be_solved(self):
        self.assertEqual(solved(((1, 0, 1), (1, 0, 1)), (0, 1)), ("bar", (0, 1)))
        self.assertEqual(solved(((0, 0),), (1,)), ("bar", (0,)))

    def test_the_kernel_may_have_rows_of_the_span(self):
        self.assertEqual(meet(((1, 1),), kernel(((1, 1),))), ((1, 1),))

    def test_each_two_of_three_may_be_solved_alone(self):
        for left in ((0, 1), (0, 2), (1, 2)):
            self.assertEqual(solved(tuple(CYCLE[k] for k in left), tuple((0, 0, 1)[k] for k in left))[0], "bits")
        self.assertEqual(solved(CYCLE, (0, 0, 1))[0], "bar")


class WrongArguments(unittest.TestCase):
    def test_no_rows(self):
        for value in NO_ROWS:
            for call in (basis, span_rank, kernel):
                caught(InvalidBits, call, value)
            for call in (solved, solution_count, solutions, sum_or_test, meet):
                caught(InvalidBits, call, value, (0,))
            for call in (is_solved, is_sum_or_test):
                caught(InvalidBits, call, value, (0,), ("bits", (0,)))
                caught(InvalidBits, call, value, (0,), None)
            caught(InvalidBits, summed, value, ())
            caught(InvalidBits, meet, value, ((0,),))
            caught(InvalidBits, meet, ((0,),), value)

    def test_no_row(self):
        for value in NO_ROW:
            for call in (bits_sum, bits_product):
                caught(InvalidBits, call, value, (0,))
                caught(InvalidBits, call, (0,), value)
            for call in (solved, solution_count, solutions, sum_or_test):
                caught(InvalidBits, call, ((0,),), value)
            for call in (is_solved, is_sum_or_test):
                caught(InvalidBits, call, ((0,),), value, None)

    def test_no_pick(self):
        for value in (None, True, 0, "", "0", [], [0], {}, (True,), (False,), (-1,), (3,), (0, 0), (1, 0), (0, 1, 2, 3),
                      (0, None), ((0,),), (0, LONG), (LONG,), ("0",), ([0],)):
            caught(InvalidOperation, summed, CYCLE, value)

    def test_unlike_lengths(self):
        for call in (bits_sum, bits_product):
            caught(InvalidOperation, call, (0,), (0, 1))
            caught(InvalidOperation, call, (0,) * 64, (0,) * 63)
        for call in (solved, solution_count, solutions):
            caught(InvalidOperation, call, CYCLE[:2], (0, 0, 0))
            caught(InvalidOperation, call, CYCLE[:2], (0,))
        caught(InvalidOperation, is_solved, CYCLE[:2], (0, 0, 0), ("bits", (0, 0, 0)))
        caught(InvalidOperation, is_solved, CYCLE[:2], (0, 0, 0), None)
        for row in ((0, 0), (0, 0, 0, 0)):
            caught(InvalidOperation, sum_or_test, CYCLE, row)
            caught(InvalidOperation, is_sum_or_test, CYCLE, row, ("sum", ()))
            caught(InvalidOperation, meet, CYCLE, (row,))

    def test_which_error_comes_first(self):
        caught(InvalidBits, summed, (), None)
        caught(InvalidBits, solutions, ((0,) * 11,), (True,))
        caught(InvalidOperation, solutions, ((0,) * 11,), (0, 0))
        caught(InvalidBits, bits_sum, (0, 1), (2,))
        caught(InvalidBits, meet, ((0,),), ((0, 1), (0,)))
        caught(InvalidBits, is_solved, CYCLE, (0, True), None)

    def test_nothing_is_changed_and_equal_calls_return_equal_results(self):
        rows = tuple(tuple(row) for row in CYCLE)
        calls = [(basis, (rows,)), (kernel, (rows,)), (solved, (rows, (0, 1, 1))), (solutions, (rows, (0, 1, 1))),
                 (sum_or_test, (rows, (1, 1, 1))), (meet, (rows, rows)), (summed, (rows, (0, 2)))]
        for call, given in calls:
            self.assertEqual(call(*given), call(*given))
        self.assertEqual(rows, CYCLE)


if __name__ == "__main__":
    unittest.main()
