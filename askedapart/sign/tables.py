"""Tables: which unknowns do not commute; couples or strings, changes, and how many strings there are.

Bundles go on inside as numbers, digit e telling whether the unknown e is in; a table as the list of the rows of
all unknowns, each one the bundle of those with which the unknown does not commute.
"""

from askedapart.base.bits import ones, pick_where, places_of, put_apart, sum_masks
from askedapart.base.checks import are_ascending, are_rising_pairs, has_size, is_integer, is_told
from askedapart.base.lots import pairs_below
from askedapart.errors import InvalidNumber, InvalidOperation, InvalidTable
from askedapart.sign.operators import MOST_LETTERS, MOST_OPERATORS, are_operators, does_commute, letters_of


def check_many(many):
    """InvalidNumber unless this is a number of unknowns."""
    if not is_integer(many) or not 1 <= many <= MOST_OPERATORS:
        raise InvalidNumber(many)


def check_table(many, table):
    """The errors of a number of unknowns with a table of them."""
    check_many(many)
    if not are_rising_pairs(table, many):
        raise InvalidTable("a table is an ascending tuple of pairs of unknowns, the lesser one ahead")


def check_letters(number, least):
    """InvalidNumber unless this is a number of letters from the least one on."""
    if not is_integer(number) or not least <= number <= MOST_LETTERS:
        raise InvalidNumber(number)


def is_table(many, value):
    """Whether the value is a table of the unknowns below many."""
    check_many(many)
    return are_rising_pairs(value, many)


def table_rows(many, table):
    """For each unknown the bundle of those with which it does not commute."""
    return [pick_where([(min(e, f), max(e, f)) in table for f in range(many)]) for e in range(many)]


def unlike_bit(rows, bundle, further):
    """The bit that is 1 if two bundles do not commute."""
    return ones(sum_masks(rows, places_of(bundle)) & further) & 1


def freed(rows, bundle, couple):
    """The bundle with such of a couple put to it that it commutes with both."""
    one, other = couple
    more = one if unlike_bit(rows, bundle, other) else 0
    return bundle ^ more ^ (other if unlike_bit(rows, bundle, one) else 0)


def couples_and_rest(rows):
    """Couples, as many as there are, and bundles that commute with all; no one of all these is a sum of others."""
    left = [1 << e for e in range(len(rows))]
    couples, rest = [], []
    while left:
        one, *others = left
        unlike = [bundle for bundle in others if unlike_bit(rows, one, bundle)]
        if unlike:
            couple = (one, unlike[0])
            couples.append(couple)
            left = [freed(rows, bundle, couple) for bundle in others if bundle != unlike[0]]
        else:
            rest.append(one)
            left = others
    return couples, rest


def rank(many, table):
    """The greatest number of rows of which no one is a sum of others."""
    check_table(many, table)
    kept, _ = put_apart(table_rows(many, table))
    return len(kept)


def do_bundles_commute(many, table, bundle, further):
    """Whether two bundles commute."""
    check_table(many, table)
    for value in (bundle, further):
        if not are_ascending(value, many):
            raise InvalidOperation("a bundle is an ascending tuple of unknowns")
    return do_places_commute(table_rows(many, table), bundle, further)


def do_places_commute(rows, bundle, further):
    """Whether two bundles, told by their unknowns, commute."""
    return not unlike_bit(rows, bundle_of(bundle), bundle_of(further))


def bundle_of(unknowns):
    """The number that stands for a bundle."""
    return sum([1 << e for e in unknowns])


def strings_by(rows, couples, number):
    """Strings of so many letters, one for each couple at least; one letter I each, if the number is 0."""
    found = []
    for e in range(len(rows)):
        firsts = [unlike_bit(rows, 1 << e, other) for _, other in couples]
        seconds = [unlike_bit(rows, 1 << e, one) for one, _ in couples]
        letters = letters_of(firsts, seconds)
        found.append("+" + letters + "I" * (max(number, 1) - len(letters)))
    return tuple(found)


def strings_of(many, table):
    """Strings of as few letters as the table lets."""
    rows = table_rows(many, table)
    couples, _ = couples_and_rest(rows)
    return strings_by(rows, couples, len(couples))


def couples_or_strings(many, table, number):
    """("couples", couples), one more than the number, or ("strings", operators) of so many letters."""
    check_table(many, table)
    check_letters(number, 0)
    rows = table_rows(many, table)
    couples, _ = couples_and_rest(rows)
    if len(couples) > number:
        return ("couples", tuple([(places_of(one), places_of(other)) for one, other in couples[:number + 1]]))
    return ("strings", strings_by(rows, couples, number))


def are_couples(many, rows, value, size):
    """Whether the value are so many couples."""
    if not has_size(value, size, size) or not all([has_size(couple, 2, 2) for couple in value]):
        return False
    bundles = [bundle for couple in value for bundle in couple]
    if not all([are_ascending(bundle, many) for bundle in bundles]):
        return False
    # The bundle behind one with an even index is the other one of its couple.
    return all([do_places_commute(rows, bundles[i], bundles[j]) != (i & 1 == 0 and j == i + 1)
                for i, j in pairs_below(2 * size)])


def are_strings(many, table, value, number):
    """Whether the value are strings of so many letters, one letter I each, if the number is 0."""
    if not are_operators(value, many, many) or len(value[0]) != max(number, 1) + 1:
        return False
    if any([string[0] != "+" for string in value]) or (number == 0 and value != ("+I",) * many):
        return False
    return table_by(value) == table


def table_by(operators):
    """The table of those of the operators that do not commute."""
    return tuple([(e, f) for e, f in pairs_below(len(operators)) if not does_commute(operators[e], operators[f])])


def is_couples_or_strings(many, table, number, value):
    """Whether the value is what couples_or_strings may return."""
    check_table(many, table)
    check_letters(number, 0)
    if is_told(value, "couples"):
        return are_couples(many, table_rows(many, table), value[1], number + 1)
    return is_told(value, "strings") and are_strings(many, table, value[1], number)


def is_change(many, value):
    """Whether the value is as many bundles as unknowns, no some of which sum to ()."""
    if not has_size(value, many, many) or not all([are_ascending(bundle, many) for bundle in value]):
        return False
    _, empty = put_apart([bundle_of(bundle) for bundle in value])
    return empty == []


def table_behind(many, table, change):
    """The table to which a change leads."""
    rows = table_rows(many, table)
    pairs = pairs_below(many)
    return tuple([(i, j) for i, j in pairs if not do_places_commute(rows, change[i], change[j])])


def led_table(many, table, change):
    """The table to which the change leads."""
    check_table(many, table)
    if not is_change(many, change):
        raise InvalidOperation("a change is as many bundles as unknowns, no some of which sum to ()")
    return table_behind(many, table, change)


def bundles_to_pairs(many, table):
    """A change, as numbers, that leads the table to the pairs (0, 1), (2, 3) and so on, as many as its couples."""
    couples, rest = couples_and_rest(table_rows(many, table))
    return [bundle for couple in couples for bundle in couple] + rest


def change_to(many, table, other):
    """A change that leads the table to the other one, or None if none does."""
    if rank(many, table) != rank(many, other):
        return None
    there = bundles_to_pairs(many, table)
    # Each unknown is the sum of a pick of the bundles that lead the other table to the same pairs.
    kept, _ = put_apart(bundles_to_pairs(many, other))
    picks = {head: pick for head, _, pick in kept}
    return tuple([places_of(sum_masks(there, places_of(picks[1 << e]))) for e in range(many)])


def is_change_to(many, table, other, value):
    """Whether the value is what change_to may return."""
    if rank(many, table) != rank(many, other):
        return value is None
    return is_change(many, value) and table_behind(many, table, value) == other


def product_below(number, factor):
    """The product of factor(i) for all i below the number."""
    found = 1
    for i in range(number):
        found = found * factor(i)
    return found


def string_count(many, table, number):
    """How many strings of so many letters there are."""
    check_table(many, table)
    check_letters(number, 1)
    half = rank(many, table) >> 1
    left, rest = number - half, many - 2 * half
    if left < 0:
        return 0
    found = product_below(half, lambda i: ((1 << 2 * (number - i)) - 1) << (2 * (number - i) - 1))
    return found * sum([row_count(left, rest, size) for size in range(min(left, rest) + 1)])


def row_count(left, rest, size):
    """How many rows of so many strings of the letters left commute, of which just size are no sums of those ahead."""
    found = product_below(size, lambda i: ((1 << 2 * (left - i)) - 1) * ((1 << rest) - (1 << i)))
    return found // product_below(size, lambda i: (2 << i) - 1)
