"""Promises [20.1] to [20.7], and the main statement [0.22]: odd moduli, shifts, and numbers or weights."""

import unittest
from itertools import product
from math import gcd
from random import Random
from time import perf_counter

from askedapart.errors import InvalidBook, InvalidNumber, InvalidOperation, InvalidOperator
from askedapart.more.odds import (MODULI, are_numbers, are_right_shifts, do_shifts_commute, is_numbers_or_weights, is_odd_book, is_shift,
                                  number_count, numbers_by, numbers_or_weights, shift_number, shift_power, shift_product)
from graph_samples import check_errors
from samples import LONG, LONGEST, NOTHING, SQUARE, caught, deep

CHANCE = Random(20)
LINE = [tuple([(at, 1) for at in some]) for some in ((0, 1, 2), (3, 4, 5), (6, 7, 8), (0, 3, 6), (1, 4, 7), (2, 5, 8))]
THREES, NINES = [(m, 9, tuple(zip(LINE, (1, 1, 1, 0, 0, 0)))) for m in (3, 9)]
TWO = (3, 2, ((((0, 1), (1, 2)), 1),))


def own_numbers(book, numbers):
    """By the words of [20.1]."""
    m, _, sayings = book
    return all(sum(weight * numbers[e] for e, weight in terms) % m == number for terms, number in sayings)


def own_weights(book, weights):
    """By the words of [20.5]."""
    m, many, sayings = book
    sums = [sum(times * dict(terms).get(e, 0) for (terms, _), times in zip(sayings, weights)) % m for e in range(many)]
    return sums == [0] * many and sum(number * times for (_, number), times in zip(sayings, weights)) % m != 0


def random_terms(m, many, some=None):
    """Terms of whatever unknowns; weights of the told kinds."""
    members = sorted(CHANCE.sample(range(many), CHANCE.randint(1, min(many, 8))))
    return tuple((e, CHANCE.choice(some or range(1, m))) for e in members)


def random_odd_book(m, unknowns=4, sayings=5, hidden=True, some=None):
    """An odd book with hidden right numbers, or with whatever numbers."""
    many = CHANCE.randint(1, unknowns)
    right = [CHANCE.randrange(m) for _ in range(many)]
    rows = [random_terms(m, many, some) for _ in range(CHANCE.randint(1, sayings))]
    told = [sum(weight * right[e] for e, weight in terms) % m if hidden else CHANCE.randrange(m) for terms in rows]
    return m, many, tuple(zip(rows, told))


def bent(book):
    """The odd book with one number bent."""
    m, many, sayings = book
    at = CHANCE.randrange(len(sayings))
    terms, number = sayings[at]
    return m, many, (*sayings[:at], (terms, (number + CHANCE.randint(1, m - 1)) % m), *sayings[at + 1:])


SMALL = [random_odd_book(m, hidden=k % 2 == 0, some=(3, 6) if m == 9 and k % 5 == 0 else (3, 6, 1, 5) if m == 9 and k % 3 == 0 else None)
         for k in range(40) for m in MODULI]
SMALL = [book for book in SMALL if book[0] ** book[1] <= 7000]
WIDE = [random_odd_book(m, 24, 16, True, some) for _ in range(12) for m, some in ((3, None), (5, None), (7, None), (9, None), (9, (3, 6)), (9, (3, 6, 2)))]


def own_product(m, one, other):
    """By the words of [20.2]."""
    (p, x, z), (q, u, v) = one, other
    return (p + q + sum(a * b for a, b in zip(z, u))) % m, tuple((a + b) % m for a, b in zip(x, u)), tuple((a + b) % m for a, b in zip(z, v))


def own_power(m, shift, times):
    """The shift so many times, one by one."""
    zeros = (0,) * len(shift[1])
    found = (0, zeros, zeros)
    for _ in range(times):
        found = own_product(m, found, shift)
    return found


def acting(m, shift, state):
    """Where a shift leads a state of its places, and the power of the root that comes with it: first the powers, then the moves."""
    p, x, z = shift
    return (p + sum(a * s for a, s in zip(z, state))) % m, tuple((s + a) % m for s, a in zip(state, x))


def random_shift(m, places):
    """A shift."""
    return CHANCE.randrange(m), *[tuple(CHANCE.randrange(m) for _ in range(places)) for _ in range(2)]


def commuting(m, places, many):
    """So many shifts that commute: powers of the root at each place, led by changes that keep what commutes."""
    row = [(CHANCE.randrange(m), (0,) * places, tuple(CHANCE.randrange(m) for _ in range(places))) for _ in range(many)]
    for _ in range(6):
        at, by = CHANCE.randrange(places), CHANCE.randrange(m)
        row = [(p, *[tuple(v) for v in changed(m, list(x), list(z), at, by)]) for p, x, z in row]
        if CHANCE.randrange(2):
            row = [turned_shift(m, shift, at) for shift in row]
    return row


def changed(m, x, z, at, by):
    """At one place z gets by times x more: what commutes stays so."""
    z[at] = (z[at] + by * x[at]) % m
    return x, z


def turned_shift(m, shift, at):
    """At one place x and z change places, with a sign: what commutes stays so."""
    p, x, z = shift
    x, z = list(x), list(z)
    x[at], z[at] = z[at], -x[at] % m
    return p, tuple(x), tuple(z)


def own_right_shifts(book, shifts):
    """By the words of [20.3]."""
    m, _, sayings = book
    for terms, number in sayings:
        some = [shifts[e] for e, _ in terms]
        if any(own_product(m, one, other) != own_product(m, other, one) for one in some for other in some):
            return False
        zeros = (0,) * len(some[0][1])
        found = (0, zeros, zeros)
        for e, weight in terms:
            found = own_product(m, found, own_power(m, shifts[e], weight))
        if found != (number, zeros, zeros):
            return False
    return True


def hidden_shifts(m, places=3, unknowns=5, sayings=4):
    """An odd book with right shifts that do not all commute: groups of commuting ones, each closed by its product."""
    held = []
    rows = []
    for _ in range(sayings):
        some = commuting(m, places, CHANCE.randint(1, 3))
        if held and CHANCE.randrange(2):
            first = CHANCE.randrange(len(held))
            some = [shift for shift in some if own_product(m, shift, held[first]) == own_product(m, held[first], shift)]
            members = [first]
        else:
            members = []
        if len(held) + len(some) + 1 > unknowns + 6:
            break
        members += range(len(held), len(held) + len(some))
        held += some
        if not members:
            continue
        weights = [CHANCE.randint(1, m - 1) for _ in members]
        zeros = (0,) * places
        found = (0, zeros, zeros)
        for e, weight in zip(members, weights):
            found = own_product(m, found, own_power(m, held[e], weight))
        # The last one goes back, but for a phase.
        held.append((CHANCE.randrange(m), tuple(-a % m for a in found[1]), tuple(-a % m for a in found[2])))
        total = own_product(m, found, held[-1])
        assert total[1:] == (zeros, zeros)
        rows.append((tuple(sorted([*zip(members, weights), (len(held) - 1, 1)])), total[0]))
    return (m, len(held), tuple(rows)), tuple(held)


HIDDEN = [pair for pair in [hidden_shifts(m, CHANCE.randint(1, 4)) for _ in range(20) for m in MODULI] if pair[0][2]]


class Examples(unittest.TestCase):
    def test_examples(self):
        self.assertEqual([numbers_or_weights(NINES)[0], numbers_or_weights(THREES)[0], number_count(THREES),
                          is_numbers_or_weights(NINES, ("weights", (1, 1, 1, 8, 8, 8)))], ["weights", "numbers", 81, True])
        self.assertEqual([shift_product(3, (0, (0,), (1,)), (0, (1,), (0,))), shift_number(3, (0, (1,), (1,)))], [(1, (1,), (1,)), 1])
        self.assertEqual(numbers_by(TWO, ((1, (1,), (2,)), (0, (1,), (2,)))), (0, 2))


class Books(unittest.TestCase):
    def test_odd_books(self):
        for book in SMALL + WIDE + [THREES, NINES, TWO]:
            self.assertIs(is_odd_book(book), True)
        terms = ((0, 1), (1, 2))
        for value in (*NOTHING, (3, 2), (3, 2, ()), (3, 2, ((terms, 1),), ()), [3, 2, ((terms, 1),)], (2, 2, ((terms, 1),)), (4, 2, ((terms, 1),)), (11, 2, ((terms, 1),)),
                      (True, 2, ((terms, 1),)), (3, True, ((terms, 1),)), (3, 0, ((terms, 1),)), (3, 25, ((terms, 1),)), (3, 2, [(terms, 1)]), (3, 2, ((terms, 3),)),
                      (3, 2, ((terms, -1),)), (3, 2, ((terms, True),)), (3, 2, ((terms,),)), (3, 2, (((), 1),)), (3, 2, (([(0, 1)], 1),)), (3, 2, ((((1, 1), (0, 1)), 1),)),
                      (3, 2, ((((0, 1), (0, 2)), 1),)), (3, 2, ((((0, 0),), 1),)), (3, 2, ((((0, 3),), 1),)), (3, 2, ((((2, 1),), 1),)), (3, 2, ((((0, True),), 1),)),
                      (3, True, ((((0, 1),), 1),)), (3, 2, ((((0, 1, 0),), 1),)), (3, 2, ((((0,),), 1),)), (3, 2, ((((0, 1),), 1, 0),)), (3, 2, ((((0, 1),),),)),
                      (3, 2, ((((False, 1),), 1),)), (3, 2, ((([0, 1],), 1),)), (3, 2, (((0, 1), 1),)), (3, 2, ((terms, 1),) * 17), (3, 9, ((tuple((e, 1) for e in range(9)), 0),)),
                      (LONG, 2, ((terms, 1),)), (3, LONG, ((terms, 1),)), (3, 2, ((terms, LONG),)), (3, 2, ((((0, LONG),), 1),)), (3, 2, None), (SQUARE, 2, ()), SQUARE,
                      ((3,), 2, ((terms, 1),)), ([3], 2, ()), (None, 2, ((terms, 1),)), ("3", 2, ((terms, 1),)), deep(THREES, 2, tuple)):
            self.assertIs(is_odd_book(value), False)
        for value in ((3, 24, ((terms, 1),) * 16), (9, 8, ((tuple((e, 8) for e in range(8)), 8),)), (5, 3, ((((2, 4),), 0),)), (7, 1, ((((0, 6),), 6),))):
            # An unknown may stand in no saying.
            self.assertIs(is_odd_book(value), True)

    def test_numbers(self):
        seen = []
        for book in SMALL:
            m, many, _ = book
            for _ in range(10):
                value = tuple(CHANCE.randrange(m) for _ in range(many))
                seen.append(own_numbers(book, value))
                self.assertIs(are_numbers(book, value), seen[-1])
            found = numbers_or_weights(book)
            if found[0] == "numbers":
                value = found[1]
                for worse in (value[1:], (*value, 0), list(value), (value[0] + m, *value[1:]), (value[0] - m, *value[1:]), tuple(bool(one) for one in value), (None,) * many):
                    self.assertIs(are_numbers(book, worse), False)
        self.assertEqual(set(seen), {True, False})


class Shifts(unittest.TestCase):
    def test_shifts(self):
        for m in MODULI:
            for places in (1, 2, 12):
                self.assertIs(is_shift(m, random_shift(m, places)), True)
            for value in (*NOTHING, (0, (), ()), (0, (0,) * 13, (0,) * 13), (0, (0,), (0, 0)), (0, (0, 0), (0,)), (m, (0,), (0,)), (0, (m,), (0,)), (0, (0,), (m,)), (-1, (0,), (0,)),
                          (True, (0,), (0,)), (0, (True,), (0,)), (0, (0,), (False,)), [0, (0,), (0,)], (0, [0], (0,)), (0, (0,), [0]), (0, (0,)), (0, (0,), (0,), 0), (0, 0, (0,)), (0, (0,), 0), ((0,), 0, (0,)),
                          (None, (0,), (0,)), (0, None, None), (LONG, (0,), (0,)), (0, (LONGEST,), (0,)), "0", (0, "0", "0")):
                self.assertIs(is_shift(m, value), False)
        self.assertIs(is_shift(5, (4, (4,), (0,))), True)
        self.assertIs(is_shift(3, (4, (4,), (0,))), False)

    def test_products_as_they_act(self):
        for m in MODULI:
            for _ in range(30):
                places = CHANCE.randint(1, 12)
                one, other = random_shift(m, places), random_shift(m, places)
                found = shift_product(m, one, other)
                self.assertEqual(found, own_product(m, one, other))
                state = tuple(CHANCE.randrange(m) for _ in range(places))
                power, behind = acting(m, other, state)
                more, last = acting(m, one, behind)
                self.assertEqual(acting(m, found, state), ((power + more) % m, last))
                self.assertIs(do_shifts_commute(m, one, other), own_product(m, one, other) == own_product(m, other, one))

    def test_which_commute(self):
        for m in MODULI:
            seen = set()
            for one, other in product(product(range(m), repeat=2), repeat=2):
                a, b = (0, one[:1], one[1:]), (1, other[:1], other[1:])
                seen.add(own_product(m, a, b) == own_product(m, b, a))
                self.assertIs(do_shifts_commute(m, a, b), own_product(m, a, b) == own_product(m, b, a))
            self.assertEqual(seen, {True, False})

    def test_powers(self):
        for m in MODULI:
            for _ in range(20):
                shift = random_shift(m, CHANCE.randint(1, 12))
                zeros = (0,) * len(shift[1])
                for times in (0, 1, 2, 3, m - 1, m, m + 1, 2 * m, CHANCE.randrange(60)):
                    self.assertEqual(shift_power(m, shift, times), own_power(m, shift, times))
                self.assertEqual(shift_power(m, shift, m), (0, zeros, zeros))
                many = CHANCE.randrange(10 ** 60)
                self.assertEqual(shift_power(m, shift, many), own_power(m, shift, many % m))
                self.assertEqual(shift_power(m, shift, 10 ** 60 - 1), own_power(m, shift, (10 ** 60 - 1) % m))

    def test_numbers_of_shifts(self):
        for m in MODULI:
            for _ in range(30):
                places = CHANCE.randint(1, 12)
                shift = random_shift(m, places)
                found = shift_number(m, shift)
                # Twice the number is twice the phase less x z.
                self.assertTrue(0 <= found < m)
                self.assertEqual(2 * found % m, (2 * shift[0] - sum(a * b for a, b in zip(*shift[1:]))) % m)
                one, other = commuting(m, places, 2)
                self.assertEqual(own_product(m, one, other), own_product(m, other, one))
                self.assertEqual(shift_number(m, own_product(m, one, other)), (shift_number(m, one) + shift_number(m, other)) % m)
                times = CHANCE.randrange(100)
                self.assertEqual(shift_number(m, shift_power(m, shift, times)), times * found % m)


class RightShifts(unittest.TestCase):
    def test_right_shifts_tell_right_numbers(self):
        unlike = 0
        for book, shifts in HIDDEN:
            self.assertTrue(own_right_shifts(book, shifts))
            self.assertIs(are_right_shifts(book, shifts), True)
            found = numbers_by(book, shifts)
            self.assertTrue(own_numbers(book, found))
            self.assertEqual(found, tuple(shift_number(book[0], shift) for shift in shifts))
            self.assertEqual(numbers_or_weights(book)[0], "numbers")
            unlike += any(own_product(book[0], one, other) != own_product(book[0], other, one) for one in shifts for other in shifts)
        self.assertGreater(unlike, 10)

    def test_bent_shifts(self):
        seen = []
        for book, shifts in HIDDEN:
            m, many, _ = book
            places = len(shifts[0][1])
            for _ in range(6):
                e = CHANCE.randrange(many)
                p, x, z = shifts[e]
                for worse in (((p + 1) % m, x, z), random_shift(m, places), CHANCE.choice(shifts), turned_shift(m, shifts[e], 0)):
                    value = (*shifts[:e], worse, *shifts[e + 1:])
                    seen.append(own_right_shifts(book, value))
                    self.assertIs(are_right_shifts(book, value), seen[-1])
                    if not seen[-1]:
                        caught(InvalidOperation, numbers_by, book, value)
                for worse in ((p, x + (0,), z + (0,)), (m, x, z), None, [p, x, z], (p, x), (bool(p), x, z)):
                    self.assertIs(are_right_shifts(book, (*shifts[:e], worse, *shifts[e + 1:])), False)
            for worse in (list(shifts), shifts[1:], shifts + shifts[:1], (shifts,), shifts[0]):
                self.assertIs(are_right_shifts(book, worse), False)
        self.assertEqual(set(seen), {True, False})
        for value in NOTHING:
            self.assertIs(are_right_shifts(TWO, value), False)

    def test_a_right_product_of_shifts_that_do_not_commute(self):
        for m in MODULI:
            one, other = (0, (1,), (0,)), (0, (0,), (1,))
            last = (1, (m - 1,), (m - 1,))
            number = own_product(m, own_product(m, one, other), last)[0]
            book = (m, 3, ((((0, 1), (1, 1), (2, 1)), number),))
            self.assertEqual(own_product(m, own_product(m, one, other), last), (number, (0,), (0,)))
            self.assertIs(are_right_shifts(book, (one, other, last)), False)
            caught(InvalidOperation, numbers_by, book, (one, other, last))

    def test_numbers_are_shifts_with_zeros(self):
        for book in SMALL:
            word, found = numbers_or_weights(book)
            if word == "numbers":
                for places in (1, 12):
                    shifts = tuple((number, (0,) * places, (0,) * places) for number in found)
                    self.assertIs(are_right_shifts(book, shifts), True)
                    self.assertEqual(numbers_by(book, shifts), found)

    def test_no_right_numbers_and_no_right_shifts(self):
        # By all shifts of one place of the least books that have none.
        for m in (3, 5):
            book = (m, 2, ((((0, 1), (1, 1)), 1), (((0, 1), (1, 1)), 2)))
            self.assertEqual(numbers_or_weights(book)[0], "weights")
            some = [(p, (x,), (z,)) for p in range(m) for x in range(m) for z in range(m)]
            self.assertFalse(any(are_right_shifts(book, value) for value in product(some, repeat=2)))
        # The lines of the square have none, though its signs have operators.
        for m in MODULI:
            book = (m, 9, tuple(zip(LINE, (0, 0, 0, 0, 0, 1))))
            self.assertEqual(numbers_or_weights(book)[0], "weights")

    def test_one_book_of_the_width_of_twelve(self):
        for m in MODULI:
            row = commuting(m, 12, 8)
            zeros = (0,) * 12
            found = (0, zeros, zeros)
            for shift in row[:7]:
                found = own_product(m, found, own_power(m, shift, 2))
            last = (3 % m, tuple(-a % m for a in found[1]), tuple(-a % m for a in found[2]))
            number = own_product(m, found, last)[0]
            book = (m, 8, ((tuple((e, 2 if e < 7 else 1) for e in range(8)), number),))
            shifts = (*row[:7], last)
            self.assertIs(are_right_shifts(book, shifts), True)
            self.assertTrue(own_numbers(book, numbers_by(book, shifts)))


class NumbersOrWeights(unittest.TestCase):
    def check(self, book):
        """The word of what is told, which is right by its meaning."""
        found = numbers_or_weights(book)
        m, many, sayings = book
        size = many if found[0] == "numbers" else len(sayings)
        self.assertTrue(len(found) == 2 and len(found[1]) == size and all(type(one) is int and 0 <= one < m for one in found[1]))
        self.assertTrue(own_numbers(book, found[1]) if found[0] == "numbers" else own_weights(book, found[1]))
        self.assertIs(is_numbers_or_weights(book, found), True)
        return found[0]

    def test_never_both(self):
        words = {}
        for book in SMALL:
            m, many, sayings = book
            right = [value for value in product(range(m), repeat=many) if own_numbers(book, value)]
            word = self.check(book)
            words[m, word] = words.get((m, word), 0) + 1
            self.assertEqual(word == "numbers", right != [])
            self.assertEqual(number_count(book), len(right))
            for _ in range(10):
                weights = tuple(CHANCE.randrange(m) for _ in sayings)
                wanted = own_weights(book, weights)
                self.assertFalse(wanted and right)
                self.assertIs(is_numbers_or_weights(book, ("weights", weights)), wanted)
            for value in CHANCE.sample(right, min(4, len(right))):
                self.assertIs(is_numbers_or_weights(book, ("numbers", value)), True)
        self.assertEqual(len(words), 8)
        self.assertGreater(min(words.values()), 4)

    def test_hidden_numbers_and_a_number_bent(self):
        words = {}
        for book in WIDE + [NINES, THREES]:
            self.assertEqual(self.check(book), "weights" if book is NINES else "numbers")
            for _ in range(4):
                other = bent(book)
                words.setdefault(self.check(other), []).append(other)
        self.assertEqual(set(words), {"numbers", "weights"})
        for book in words["weights"]:
            # Each factor that leaves the told sum other than 0 is right, too.
            m, _, sayings = book
            weights = numbers_or_weights(book)[1]
            for factor in range(m):
                value = tuple(factor * one % m for one in weights)
                self.assertIs(is_numbers_or_weights(book, ("weights", value)), own_weights(book, value))

    def test_weights_that_have_a_part_in_common_with_nine(self):
        for rows, wanted in (
                (((((0, 3),), 1),), "weights"), (((((0, 3),), 3),), "numbers"), (((((0, 3), (1, 6)), 6),), "numbers"), (((((0, 3), (1, 6)), 4),), "weights"),
                (((((0, 3),), 3), (((0, 1),), 2)), "weights"), (((((0, 3),), 3), (((0, 1),), 4)), "numbers"),
                (((((0, 3),), 3), (((0, 1),), 7)), "numbers"), (((((0, 3), (1, 1)), 0), (((0, 6), (1, 2)), 3)), "weights"),
                (((((0, 3), (1, 3)), 3), (((0, 3), (1, 6)), 0)), "numbers"), (((((0, 3), (1, 3)), 3), (((0, 6), (1, 6)), 3)), "weights")):
            book = (9, 2, rows)
            self.assertEqual(self.check(book), wanted)
            self.assertEqual(number_count(book), sum(own_numbers(book, value) for value in product(range(9), repeat=2)))

    def test_counts(self):
        for book in WIDE:
            m, many, sayings = book
            found = number_count(book)
            self.assertEqual(found, number_count((m, many, tuple((terms, 0) for terms, _ in sayings))))
            while found % gcd(m, found) == 0 and found > 1:
                found //= 3 if m == 9 else m
            self.assertEqual(found, 1)
        self.assertEqual(number_count((7, 24, ((((0, 1),), 3),))), 7 ** 23)
        self.assertEqual(number_count((9, 24, ((((0, 3),), 3),))), 3 * 9 ** 23)
        self.assertEqual(number_count((9, 24, ((((0, 3),), 2),))), 0)

    def test_bent_answers(self):
        for book in [THREES, NINES, *SMALL[:40]]:
            word, found = numbers_or_weights(book)
            for at, one in enumerate(found):
                for worse in (one + book[0], -1, None, True, str(one), LONG):
                    self.assertIs(is_numbers_or_weights(book, (word, (*found[:at], worse, *found[at + 1:]))), False)
            for value in ((word, list(found)), [word, found], (word, found[1:]), (word, (*found, 0)), (word,), (word, found, ()), (found, word), ("what", found),
                          ("weights" if word == "numbers" else "numbers", found) if book[1] != len(book[2]) else None):
                self.assertIs(is_numbers_or_weights(book, value), False)

    def test_the_judged_value_is_never_an_error(self):
        for value in (*NOTHING, ("numbers", None), ("numbers", ()), ("weights", ()), ("weights", None), ("weights", (0,) * 6), ("numbers", (0,) * 9), ("weights", (LONG,) * 6)):
            self.assertIs(is_numbers_or_weights(NINES, value), False)
            self.assertIs(are_numbers(NINES, value), False)

    def test_speed(self):
        for m in MODULI:
            book = (m, 24, tuple((tuple((e, CHANCE.randint(1, m - 1)) for e in sorted(CHANCE.sample(range(24), 8))), CHANCE.randrange(m)) for _ in range(16)))
            begun = perf_counter()
            self.check(book)
            self.check((m, 24, (*book[2][:15], (book[2][0][0], (book[2][0][1] + 1) % m))))
            number_count(book)
            self.assertLess(perf_counter() - begun, 2)


class NoneOfTheseIsTrue(unittest.TestCase):
    def test_three_and_nine(self):
        self.assertEqual([numbers_or_weights(THREES)[0], numbers_or_weights(NINES)[0]], ["numbers", "weights"])

    def test_number_and_phase(self):
        self.assertNotEqual(shift_number(3, (0, (1,), (1,))), 0)

    def test_right_shifts_that_do_not_commute(self):
        book = (3, 2, ((((0, 1),), 0),))
        shifts = ((0, (0,), (0,)), (1, (1,), (2,)))
        self.assertIs(are_right_shifts(book, shifts), True)
        some = [(one, other) for book, shifts in HIDDEN for one in shifts for other in shifts if not do_shifts_commute(book[0], one, other)]
        self.assertGreater(len(some), 10)


class WrongArguments(unittest.TestCase):
    def test_wrong_arguments(self):
        book = {0: (InvalidBook, (*NOTHING, [*TWO], TWO[:2], (2, *TWO[1:]), (3, 2, ())))}
        modulus = {0: (InvalidNumber, (None, True, False, 0, 1, 2, 4, 6, 8, 11, -3, "3", (3,), [3], {}, LONG, LONGEST))}
        no_shift = (*NOTHING, (0, (), ()), (3, (0,), (0,)), (0, (0,), (0, 0)), [0, (0,), (0,)], (0, (True,), (0,)))
        shift = {**modulus, 1: (InvalidOperator, no_shift)}
        two = {**shift, 2: (InvalidOperator, no_shift)}
        times = {**shift, 2: (InvalidNumber, (None, True, False, -1, -LONG, LONG, LONGEST, "1", (), (1,), [1], {}))}
        one = (1, (1,), (2,))
        right = ((1, (1,), (2,)), (0, (1,), (2,)))
        for call, good, bad in (
                (is_odd_book, (TWO,), {}), (are_numbers, (TWO, None), book), (are_right_shifts, (TWO, None), book), (is_shift, (3, None), modulus),
                (shift_product, (3, one, one), two), (shift_power, (3, one, 2), times), (do_shifts_commute, (3, one, one), two), (shift_number, (3, one), shift),
                (numbers_by, (TWO, right), {**book, 1: (InvalidOperation, (*NOTHING, right[:1], list(right), (right[0], right[0]), (*right, right[0])))}),
                (numbers_or_weights, (TWO,), book), (is_numbers_or_weights, (TWO, None), book), (number_count, (TWO,), book)):
            check_errors(call, good, bad)

    def test_unlike_numbers_of_places(self):
        for m in MODULI:
            for call in (shift_product, do_shifts_commute):
                caught(InvalidOperation, call, m, (0, (0,), (0,)), (0, (0, 0), (0, 0)))
                caught(InvalidOperator, call, m, (0, (0,), (0,)), (0, (0, 0), (0,)))

    def test_nothing_is_changed_and_equal_calls_return_equal_results(self):
        for book in SMALL[:20]:
            self.assertEqual(numbers_or_weights(book), numbers_or_weights(book))


if __name__ == "__main__":
    unittest.main()
