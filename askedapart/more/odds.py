"""Odd moduli: sayings that sum to numbers, shifts of places, and right numbers or weights that bar them."""

from math import gcd

from askedapart.base.checks import has_size, is_index, is_integer, is_told
from askedapart.errors import InvalidBook, InvalidNumber, InvalidOperation, InvalidOperator
from askedapart.say.books import MOST_MEMBERS, MOST_SAYINGS, MOST_UNKNOWNS

MODULI = (3, 5, 7, 9)
MOST_PLACES = 12


def is_modulus(value):
    """Whether the value is one of the odd moduli."""
    return is_integer(value) and value in MODULI


def check_modulus(value):
    """InvalidNumber unless the value is one of the odd moduli."""
    if not is_modulus(value):
        raise InvalidNumber(value)


def are_below(value, modulus, many):
    """Whether the value is a tuple of so many numbers below the modulus."""
    return has_size(value, many, many) and all([is_index(number, modulus) for number in value])


def is_term(value, modulus, many):
    """Whether the value is a pair of an unknown and of a weight that is not 0."""
    return has_size(value, 2, 2) and is_index(value[0], many) and is_index(value[1], modulus) and value[1] > 0


def is_odd_saying(value, modulus, many):
    """Whether the value is a pair of ascending terms of unlike unknowns, and of a number."""
    if not has_size(value, 2, 2) or not is_index(value[1], modulus) or not has_size(value[0], 1, MOST_MEMBERS):
        return False
    if not all([is_term(term, modulus, many) for term in value[0]]):
        return False
    return all([value[0][k][0] < value[0][k + 1][0] for k in range(len(value[0]) - 1)])


def is_odd_book(value):
    """Whether the value is an odd book."""
    if not has_size(value, 3, 3) or not is_modulus(value[0]):
        return False
    modulus, many, sayings = value
    if not is_integer(many) or not 1 <= many <= MOST_UNKNOWNS or not has_size(sayings, 1, MOST_SAYINGS):
        return False
    return all([is_odd_saying(saying, modulus, many) for saying in sayings])


def check_odd_book(value):
    """InvalidBook unless the value is an odd book."""
    if not is_odd_book(value):
        raise InvalidBook("an odd book is a modulus, a number of unknowns and sayings with weights")


def are_right_numbers(book, numbers):
    """Whether numbers, one for each unknown, keep all sayings."""
    modulus, _, sayings = book
    sums = [sum([weight * numbers[e] for e, weight in terms]) % modulus for terms, _ in sayings]
    return all([found == number for found, (_, number) in zip(sums, sayings)])


def are_numbers(book, value):
    """Whether the value is right numbers."""
    check_odd_book(book)
    return are_below(value, book[0], book[1]) and are_right_numbers(book, value)


def is_told_shift(modulus, value):
    """Whether the value is a shift of 1 to 12 places."""
    if not has_size(value, 3, 3) or not is_index(value[0], modulus) or not has_size(value[1], 1, MOST_PLACES):
        return False
    places = len(value[1])
    return are_below(value[1], modulus, places) and are_below(value[2], modulus, places)


def is_shift(modulus, value):
    """Whether the value is a shift."""
    check_modulus(modulus)
    return is_told_shift(modulus, value)


def check_shifts(modulus, *values):
    """InvalidOperator for the first that is no shift; InvalidOperation for unlike numbers of places."""
    check_modulus(modulus)
    for value in values:
        if not is_told_shift(modulus, value):
            raise InvalidOperator("a shift is a phase, and two numbers for each of 1 to 12 places")
    if any([len(value[1]) != len(values[0][1]) for value in values]):
        raise InvalidOperation("unlike numbers of places")


def dot(row, other):
    """The sum of the products of two rows, place by place."""
    return sum([one * more for one, more in zip(row, other)])


def added(modulus, row, other):
    """The sum of two rows, place by place."""
    return tuple([(one + more) % modulus for one, more in zip(row, other)])


def scaled(modulus, row, factor):
    """The row, each number times the factor."""
    return tuple([factor * number % modulus for number in row])


def product_by(modulus, one, other):
    """The product of two shifts."""
    phase = (one[0] + other[0] + dot(one[2], other[1])) % modulus
    return phase, added(modulus, one[1], other[1]), added(modulus, one[2], other[2])


def power_by(modulus, shift, times):
    """So many times a shift."""
    phase, row, other = shift
    # The shift passes itself once for each two of the times.
    met = times * (times - 1) // 2
    return (times * phase + met * dot(other, row)) % modulus, scaled(modulus, row, times), scaled(modulus, other, times)


def do_pass(modulus, one, other):
    """Whether two shifts commute."""
    return (dot(one[2], other[1]) - dot(other[2], one[1])) % modulus == 0


def number_of(modulus, shift):
    """The number of a shift."""
    half = (modulus + 1) // 2
    return (shift[0] - half * dot(shift[1], shift[2])) % modulus


def shift_product(modulus, one, other):
    """The product of two shifts."""
    check_shifts(modulus, one, other)
    return product_by(modulus, one, other)


def shift_power(modulus, shift, times):
    """So many times a shift."""
    check_shifts(modulus, shift)
    # Integers that are passed have at most sixty digits.
    if not is_index(times, 10 ** 60):
        raise InvalidNumber(times)
    return power_by(modulus, shift, times)


def do_shifts_commute(modulus, one, other):
    """Whether two shifts commute."""
    check_shifts(modulus, one, other)
    return do_pass(modulus, one, other)


def shift_number(modulus, shift):
    """The number of a shift."""
    check_shifts(modulus, shift)
    return number_of(modulus, shift)


def is_right_for(modulus, saying, shifts):
    """Whether the shifts of a saying all commute, and their product is its number."""
    terms, number = saying
    some = [shifts[e] for e, _ in terms]
    if not all([do_pass(modulus, one, other) for one in some for other in some]):
        return False
    idle = (0,) * len(some[0][1])
    found = (0, idle, idle)
    for e, weight in terms:
        found = product_by(modulus, found, power_by(modulus, shifts[e], weight))
    return found == (number, idle, idle)


def are_right_shifts(book, value):
    """Whether the value is right shifts."""
    check_odd_book(book)
    modulus, many, sayings = book
    if not has_size(value, many, many) or not all([is_told_shift(modulus, shift) for shift in value]):
        return False
    if any([len(shift[1]) != len(value[0][1]) for shift in value]):
        return False
    return all([is_right_for(modulus, saying, value) for saying in sayings])


def numbers_by(book, shifts):
    """The numbers of right shifts."""
    if not are_right_shifts(book, shifts):
        raise InvalidOperation("the shifts are not right for the book")
    return tuple([number_of(book[0], shift) for shift in shifts])


def weighted_rows(book):
    """For each saying its row: the weights of all unknowns, its number, and 1 at itself of all sayings."""
    _, many, sayings = book
    rows = []
    for at, (terms, number) in enumerate(sayings):
        weights = dict(terms)
        own = [int(other == at) for other in range(len(sayings))]
        rows.append([weights.get(e, 0) for e in range(many)] + [number] + own)
    return rows


def divisor(modulus, row, place):
    """What the number at the place has in common with the modulus."""
    return gcd(row[place], modulus)


def quotient(modulus, number, by):
    """A factor that leads one number to another one, which it divides modulo the modulus."""
    return [factor for factor in range(modulus) if (factor * by - number) % modulus == 0][0]


def less(modulus, row, factor, other):
    """The row less so many times the other one."""
    return [(one - factor * more) % modulus for one, more in zip(row, other)]


def entries_of(modulus, many, rows):
    """Triples (divisor, at, place) of all weights in rows that are not 0."""
    return [(divisor(modulus, row, e), at, e) for at, row in enumerate(rows) for e in range(many) if row[e]]


def cleared(book):
    """Pairs (place, row), in each of which the place is that of an entry that divides all, and the rows that are left.

    The place of a pair has 0 in all pairs behind it, and what is left has 0 at all unknowns.
    """
    modulus, many, _ = book
    done, left = [], weighted_rows(book)
    entries = entries_of(modulus, many, left)
    while entries:
        # What has least in common with the modulus divides all others.
        _, at, place = min(entries)
        chosen = left[at]
        others = left[:at] + left[at + 1:]
        left = [less(modulus, row, quotient(modulus, row[place], chosen[place]), chosen) for row in others]
        done.append((place, chosen))
        entries = entries_of(modulus, many, left)
    return done, left


def numbers_along(book, done):
    """Right numbers by the pairs (place, row) of cleared rows, each of which can be kept."""
    modulus, many, _ = book
    found = [0] * many
    for place, row in reversed(done):
        found[place] = quotient(modulus, row[many] - dot(row[:many], found), row[place])
    return tuple(found)


def numbers_or_weights(book):
    """("numbers", numbers) that are right, or ("weights", weights) of the sayings that bar them."""
    check_odd_book(book)
    modulus, many, _ = book
    done, left = cleared(book)
    # A row goes to zeros if it is taken as often as its entries lack to the modulus; its number must go, too.
    empty = [(1, row) for row in left] + [(modulus // divisor(modulus, row, place), row) for place, row in done]
    for factor, row in empty:
        if factor * row[many] % modulus:
            return ("weights", scaled(modulus, row[many + 1:], factor))
    return ("numbers", numbers_along(book, done))


def do_weights_bar(book, weights):
    """Whether the sayings, each times its weight, sum to 0 at each unknown, and their numbers do not."""
    modulus, many, sayings = book
    sums = [0] * many
    for (terms, _), times in zip(sayings, weights):
        for e, weight in terms:
            sums[e] = sums[e] + times * weight
    told = dot(weights, [number for _, number in sayings])
    return all([found % modulus == 0 for found in sums]) and told % modulus != 0


def is_numbers_or_weights(book, value):
    """Whether the value is what numbers_or_weights may return."""
    check_odd_book(book)
    if is_told(value, "numbers"):
        return are_numbers(book, value[1])
    if not is_told(value, "weights") or not are_below(value[1], book[0], len(book[2])):
        return False
    return do_weights_bar(book, value[1])


def number_count(book):
    """How many right numbers there are."""
    if numbers_or_weights(book)[0] == "weights":
        return 0
    modulus, many, _ = book
    done, _ = cleared(book)
    found = 1
    for _ in range(many - len(done)):
        found = found * modulus
    for place, row in done:
        found = found * divisor(modulus, row, place)
    return found
