"""Sums of the bits of measured operators that are sure, for all parts that ask what can come.

A sum is told by a pair (pick, bit): the bits of the operators in the pick sum to this bit.
"""

from askedapart.base.bits import all_sums, kernel_masks, ones, pick_where, places_of, solved_masks
from askedapart.sign.operators import relations, times_all


def sure_sums(row):
    """The list of the sums that are sure, no one coming of others, for operators whose products to a sign commute."""
    picks = relations(row)
    return [(pick, times_all([row[at] for at in places_of(pick)])[0] >> 1) for pick in picks]


def does_keep(sums, bits):
    """Whether bits, one for each operator, keep all sums."""
    told = pick_where(bits)
    return all([ones(pick & told) & 1 == bit for pick, bit in sums])


def rows_keeping(sums, length):
    """The ascending list of all rows of so many bits that keep all sums."""
    picks = [pick for pick, _ in sums]
    _, start = solved_masks(picks, pick_where([bit for _, bit in sums]))
    found = all_sums(start, kernel_masks(picks, length))
    return sorted([tuple([(pick >> at) & 1 for at in range(length)]) for pick in found])
