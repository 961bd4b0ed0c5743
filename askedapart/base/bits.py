"""Rows of bits: sums, spans, kernels, and what can be solved.

Sums go on inside as numbers, called masks here: the first place of a row is the highest digit,
so that the head of a row is the highest 1, and masks ascend as their rows do.
A pick, however, has the index 0 as its lowest digit.
"""

from askedapart.base.checks import are_ascending, has_size, is_bit, is_bit_for_each, is_told
from askedapart.errors import InvalidBits, InvalidOperation, TooMany

MOST_BITS = 64
MOST_ROWS = 64
MOST_SOLUTIONS = 1024


def is_bits(value):
    """Whether the value is a row."""
    return has_size(value, 1, MOST_BITS) and all([is_bit(bit) for bit in value])


def are_rows(value):
    """Whether the value is rows: a tuple of rows of one length."""
    if not has_size(value, 1, MOST_ROWS) or not all([is_bits(row) for row in value]):
        return False
    return all([len(row) == len(value[0]) for row in value])


def check_bits(value):
    """InvalidBits unless the value is a row."""
    if not is_bits(value):
        raise InvalidBits("a row is a tuple of 1 to 64 bits")


def check_rows(value):
    """InvalidBits unless the value is rows."""
    if not are_rows(value):
        raise InvalidBits("rows are a tuple of 1 to 64 rows of one length")


def check_equal(length, other):
    """InvalidOperation unless both lengths are one."""
    if length != other:
        raise InvalidOperation("unlike lengths")


def check_two(one, other):
    """The errors of two rows."""
    check_bits(one)
    check_bits(other)
    check_equal(len(one), len(other))


def check_goal(rows, goal):
    """The errors of rows that are to be solved with a goal."""
    check_rows(rows)
    check_bits(goal)
    check_equal(len(rows), len(goal))


def check_rows_and_row(rows, row):
    """The errors of rows with a further row."""
    check_rows(rows)
    check_bits(row)
    check_equal(len(rows[0]), len(row))


def mask_of(row):
    """The mask of a row."""
    mask = 0
    for bit in row:
        mask = 2 * mask + bit
    return mask


def row_of(mask, length):
    """The row of this length of a mask."""
    return tuple([(mask >> place) & 1 for place in range(length - 1, -1, -1)])


def places_of(pick):
    """The ascending tuple of the indices in a pick."""
    return tuple([index for index in range(pick.bit_length()) if (pick >> index) & 1])


def pick_where(bits):
    """The pick of the indices of all bits that are 1."""
    return sum([1 << index for index, bit in enumerate(bits) if bit])


def ones(mask):
    """How many digits of the mask are 1."""
    return f"{mask:b}".count("1")


def put_down(kept, mask, pick):
    """The mask, and the pick that it sums, with the head of each kept row put to 0."""
    for head, other, others in kept:
        if mask & head:
            mask = mask ^ other
            pick = pick ^ others
    return mask, pick


def put_apart(masks):
    """Triples (head, mask, pick) of a basis, each with a pick that sums to it; the picks that sum to zeros.

    Each mask has the index of its place as its own pick at first. So the picks that sum to zeros
    are themselves a basis of all such picks: each has an index that the ones ahead do not have.
    """
    kept, empty = [], []
    for index, given in enumerate(masks):
        mask, pick = put_down(kept, given, 1 << index)
        if mask == 0:
            empty.append(pick)
            continue
        head = 1 << (mask.bit_length() - 1)
        kept = [(low, held ^ mask, mine ^ pick) if held & head else (low, held, mine) for low, held, mine in kept]
        kept.append((head, mask, pick))
    return kept, empty


def basis_masks(masks):
    """The masks of the basis, heads ascending as places, which is descending as numbers."""
    kept, _ = put_apart(masks)
    return sorted([mask for _, mask, _ in kept], reverse=True)


def free_mask(kept, place):
    """What has the product 0 with all kept rows, and 1 at this place alone of those that are no heads."""
    return place + sum([head for head, mask, _ in kept if mask & place])


def kernel_masks(masks, length):
    """Masks of a basis of the kernel, in whatever form; of no masks at all, the kernel is everything."""
    kept, _ = put_apart(masks)
    heads = sum([head for head, _, _ in kept])
    places = [1 << at for at in range(length)]
    return [free_mask(kept, place) for place in places if not heads & place]


def solved_masks(masks, asked):
    """("bits", x) with the product 1 with just the masks in the pick asked for, or ("bar", pick) as of solved."""
    kept, empty = put_apart(masks)
    for pick in empty:
        if ones(pick & asked) & 1:
            return ("bar", pick)
    # Heads stand apart, so that with 0 at all other places each head settles the product of its own mask alone.
    return ("bits", sum([head for head, _, pick in kept if ones(pick & asked) & 1]))


def sum_or_test_masks(masks, goal):
    """("sum", pick) of the masks that sum to the goal, or ("test", x) with the product 1 with the goal alone."""
    kept, _ = put_apart(masks)
    rest, pick = put_down(kept, goal, 0)
    if rest == 0:
        return ("sum", pick)
    # What is left has 0 at all heads, so that one of its other places tells it from the span.
    return ("test", free_mask(kept, 1 << (rest.bit_length() - 1)))


def all_sums(start, masks):
    """Start with the sum of each lot of the masks; digit k of the index tells whether mask k is in it."""
    found = [start]
    for mask in masks:
        found = found + [other ^ mask for other in found]
    return found


def told_rows(masks, length):
    """The tuple of the rows of masks."""
    return tuple([row_of(mask, length) for mask in masks])


def masks_of(rows):
    """The masks of all rows."""
    return [mask_of(row) for row in rows]


def sum_masks(masks, pick):
    """The sum of the masks with these indices."""
    found = 0
    for index in pick:
        found = found ^ masks[index]
    return found


def bits_sum(one, other):
    """The sum of two rows."""
    check_two(one, other)
    return row_of(mask_of(one) ^ mask_of(other), len(one))


def bits_product(one, other):
    """The sum of the bits at which both rows have 1."""
    check_two(one, other)
    return ones(mask_of(one) & mask_of(other)) & 1


def summed(rows, pick):
    """The sum of the rows with these indices."""
    check_rows(rows)
    if not are_ascending(pick, len(rows)):
        raise InvalidOperation("a pick is an ascending tuple of indices of rows")
    return row_of(sum_masks(masks_of(rows), pick), len(rows[0]))


def basis(rows):
    """The one basis of the span whose heads ascend and stand in no other row of it."""
    check_rows(rows)
    return told_rows(basis_masks(masks_of(rows)), len(rows[0]))


def span_rank(rows):
    """How many rows the basis has."""
    return len(basis(rows))


def kernel(rows):
    """The basis of all rows that have the product 0 with each of these."""
    check_rows(rows)
    length = len(rows[0])
    return told_rows(basis_masks(kernel_masks(masks_of(rows), length)), length)


def solved(rows, goal):
    """("bits", x) with products with the rows as the goal tells, or ("bar", pick) that shows there is none."""
    check_goal(rows, goal)
    word, found = solved_masks(masks_of(rows), pick_where(goal))
    return ("bar", places_of(found)) if word == "bar" else ("bits", row_of(found, len(rows[0])))


def is_solved(rows, goal, value):
    """Whether the value is what solved may return."""
    check_goal(rows, goal)
    if is_told(value, "bits"):
        return is_bit_for_each(value[1], len(rows[0])) and has_products(rows, value[1], goal)
    if is_told(value, "bar") and are_ascending(value[1], len(rows)):
        return sum_masks(masks_of(rows), value[1]) == 0 and sum([goal[at] for at in value[1]]) & 1 == 1
    return False


def has_products(rows, row, goal):
    """Whether the row has the products with the rows that the goal tells."""
    mask = mask_of(row)
    return all([ones(other & mask) & 1 == bit for other, bit in zip(masks_of(rows), goal)])


def solution_count(rows, goal):
    """How many x have the products that the goal tells."""
    if solved(rows, goal)[0] == "bar":
        return 0
    return 1 << (len(rows[0]) - span_rank(rows))


def solutions(rows, goal):
    """The ascending tuple of all x that have the products that the goal tells."""
    if solution_count(rows, goal) > MOST_SOLUTIONS:
        raise TooMany(MOST_SOLUTIONS)
    word, found = solved(rows, goal)
    if word == "bar":
        return ()
    length = len(rows[0])
    return told_rows(sorted(all_sums(mask_of(found), kernel_masks(masks_of(rows), length))), length)


def sum_or_test(rows, row):
    """("sum", pick) of which the row is the sum, or ("test", bits) with the product 1 with the row alone."""
    check_rows_and_row(rows, row)
    word, found = sum_or_test_masks(masks_of(rows), mask_of(row))
    return ("sum", places_of(found)) if word == "sum" else ("test", row_of(found, len(row)))


def is_sum_or_test(rows, row, value):
    """Whether the value is what sum_or_test may return."""
    check_rows_and_row(rows, row)
    if is_told(value, "sum") and are_ascending(value[1], len(rows)):
        return sum_masks(masks_of(rows), value[1]) == mask_of(row)
    if is_told(value, "test") and is_bit_for_each(value[1], len(row)):
        return has_products(rows, value[1], (0,) * len(rows)) and bits_product(row, value[1]) == 1
    return False


def meet(rows, more):
    """The basis of all rows that are in both spans."""
    check_rows(rows)
    check_rows(more)
    length = len(rows[0])
    check_equal(length, len(more[0]))
    # What is in both spans is just what has the product 0 with all that either kernel has.
    barred = kernel_masks(masks_of(rows), length) + kernel_masks(masks_of(more), length)
    return told_rows(basis_masks(kernel_masks(barred, length)), length)
