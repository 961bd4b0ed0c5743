"""Shared qubits: states told by what they fix, what is measured, and what comes at both ends of shared pairs.

Bits that are not sure stay open inside: what is measured is told by a mask, the digit 0 of which tells a bit that is
known, and the digit k, from 1 on, whether the open bit with this number is put to it.
"""

from askedapart.base.bits import all_sums, mask_of, places_of, put_apart, sum_masks, sum_or_test_masks, told_rows
from askedapart.base.checks import has_size, is_bit, is_integer
from askedapart.base.lots import pairs_below
from askedapart.errors import InvalidNumber, InvalidOperation, InvalidState, Refused, TooMany
from askedapart.sign.operators import MOST_LETTERS, are_operators, bits_together, check_operators, check_row
from askedapart.sign.operators import does_commute, is_operator, relations, times_all, with_sign

MOST_PAIRS = 6
MOST_OUTCOMES = 4096
# With more open bits more than so many rows can come.
MOST_OPEN = 12


def do_all_commute(operators):
    """Whether each two of the operators commute."""
    return all([does_commute(operators[i], operators[j]) for i, j in pairs_below(len(operators))])


def is_state(value):
    """Whether the value is a state: as many operators as letters, all commuting, no product of some a sign."""
    if not has_size(value, 1, MOST_LETTERS) or not are_operators(value, len(value), len(value)):
        return False
    return len(value[0]) == len(value) + 1 and do_all_commute(value) and relations(value) == []


def check_state(value):
    """InvalidState unless the value is a state."""
    if not is_state(value):
        raise InvalidState("a state is n operators of n letters, all commuting, no product of some having I alone")


def idle_like(operator):
    """Letters I alone, as many as the operator has."""
    return "+" + "I" * (len(operator) - 1)


def product_with_sign(operators):
    """The product of operators that commute, of one at least."""
    power, found = times_all(operators)
    return with_sign(power >> 1, found)


def form_by(state):
    """The one form of what is known to be a state."""
    kept, _ = put_apart([bits_together(operator) for operator in state])
    # Heads ascend as places, which is descending as numbers.
    kept = sorted(kept, reverse=True)
    return tuple([product_with_sign([state[at] for at in places_of(pick)]) for _, _, pick in kept])


def form(state):
    """The one state that fixes the same, and whose rows of bits have heads that ascend, each in no other row."""
    check_state(state)
    return form_by(state)


def fixed_mask(held, operator):
    """The mask of the bit of an operator that commutes with all that is held."""
    _, pick = sum_or_test_masks([bits_together(other) for other, _ in held], bits_together(operator))
    some = places_of(pick)
    power, _ = times_all([idle_like(operator), *[held[at][0] for at in some]])
    known = (power >> 1) ^ int(operator[0] == "-")
    return known ^ sum_masks([mask for _, mask in held], some)


def put_to(one, other):
    """The product of two of what is held, which commute, with the sum of both masks."""
    return product_with_sign([one[0], other[0]]), one[1] ^ other[1]


def held_behind(held, operator, mask):
    """What is held, pairs of an operator and a mask, behind an open bit with this mask; None if the bit is sure."""
    unlike = [at for at, (other, _) in enumerate(held) if not does_commute(other, operator)]
    if unlike == []:
        return None
    first = held[unlike[0]]
    found = [put_to(first, pair) if at in unlike else pair for at, pair in enumerate(held)]
    found[unlike[0]] = (operator, mask)
    return found


def masks_along(state, row):
    """The list of the masks of what comes, one for each operator of the row, and the number of open bits."""
    held = [(operator, 0) for operator in state]
    found, opened = [], 0
    for operator in row:
        behind = held_behind(held, operator, 2 << opened)
        if behind is None:
            found.append(fixed_mask(held, operator))
        else:
            found.append(2 << opened)
            opened += 1
            held = behind
    return found, opened


def rows_coming(state, row):
    """The ascending tuple of all rows of bits that can come; TooMany if these are too many."""
    masks, opened = masks_along(state, row)
    if opened > MOST_OPEN:
        raise TooMany(MOST_OUTCOMES)
    start = mask_of([mask & 1 for mask in masks])
    turns = [mask_of([(mask >> at) & 1 for mask in masks]) for at in range(1, opened + 1)]
    return told_rows(sorted(all_sums(start, turns)), len(row))


def check_measured(state, operator):
    """The errors of a state with an operator, but for that of unlike lengths."""
    check_state(state)
    check_operators(operator)


def check_lengths(one, other):
    """InvalidOperation unless two operators have equally many letters."""
    if len(one) != len(other):
        raise InvalidOperation("unlike numbers of letters")


def bit_for_sure(state, operator):
    """The bit of an operator that comes for sure, or None."""
    if not all([does_commute(other, operator) for other in state]):
        return None
    return fixed_mask([(other, 0) for other in state], operator)


def fixed_bit(state, operator):
    """The bit that comes for sure, or None."""
    check_measured(state, operator)
    check_lengths(state[0], operator)
    return bit_for_sure(state, operator)


def measured(state, operator, bit):
    """The form of the state behind this bit."""
    check_measured(state, operator)
    if not is_bit(bit):
        raise InvalidNumber(bit)
    check_lengths(state[0], operator)
    signed = with_sign(int(operator[0] == "-") ^ bit, operator)
    held = held_behind([(other, 0) for other in state], signed, 0)
    if held is None and bit_for_sure(state, operator) != bit:
        raise Refused(("never",))
    return form_by(state if held is None else [other for other, _ in held])


def outcomes(state, row):
    """The ascending tuple of all rows of bits that can come."""
    check_state(state)
    check_row(row)
    check_lengths(state[0], row[0])
    return rows_coming(state, row)


def check_states(one, other):
    """The errors of two states."""
    check_state(one)
    check_state(other)
    check_lengths(one[0], other[0])


def parting(one, other):
    """An operator that the one state fixes, the other one not, or None if they are one."""
    check_states(one, other)
    for operator in one:
        if bit_for_sure(other, operator) != 0:
            return operator
    return None


def is_parting(one, other, value):
    """Whether the value is what parting may return."""
    check_states(one, other)
    if value is None:
        return form_by(one) == form_by(other)
    if not is_operator(value) or len(value) != len(one[0]):
        return False
    return bit_for_sure(one, value) == 0 and bit_for_sure(other, value) != 0


def mirrored(operator):
    """The mirror of an operator: the same letters, and the other sign if the number of its Y is odd."""
    check_operators(operator)
    return with_sign(int(operator[0] == "-") ^ (operator.count("Y") & 1), operator)


def pairs_state(number):
    """The form of the state of shared pairs, however many."""
    ends = ["I" * at + letter + "I" * (number - 1 - at) for letter in ("X", "Z") for at in range(number)]
    return tuple(["+" + letters * 2 for letters in ends])


def shared_pairs(number):
    """The form of the state of so many shared pairs."""
    if not is_integer(number) or not 1 <= number <= MOST_PAIRS:
        raise InvalidNumber(number)
    return pairs_state(number)


def pair_outcomes(row, others):
    """The ascending tuple of the pairs of rows that can come if one end measures the row, the other one the others."""
    check_row(row)
    check_row(others)
    check_lengths(row[0], others[0])
    idle = "I" * (len(row[0]) - 1)
    both = [operator + idle for operator in row] + [operator[0] + idle + operator[1:] for operator in others]
    found = rows_coming(pairs_state(len(idle)), both)
    return tuple([(bits[:len(row)], bits[len(row):]) for bits in found])
