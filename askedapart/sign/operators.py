"""Operators: their products, quarter turns, and rows of them that quarter turns lead to one another.

Products go on inside with forms: triples (power, firsts, seconds) that tell i to this power, times X at each
qubit with a first bit, times Z behind it at each one with a second bit; Y is i X Z. The bits of the qubits are
the digits of a number, the first qubit being the highest one.
"""

from askedapart.base.bits import mask_of, ones, pick_where, places_of, put_apart, row_of, solved_masks
from askedapart.base.checks import are_ascending, has_form, has_size, is_index, is_told
from askedapart.base.lots import pairs_below
from askedapart.errors import InvalidOperation, InvalidOperator

MOST_LETTERS = 12
MOST_OPERATORS = 24
MOST_TURNS = 200
# Where a letter stands in the row tells its bits: the first bit, and twice the second one.
LETTERS_BY_BITS = ("I", "X", "Z", "Y")


def is_operator(value):
    """Whether the value is an operator: a sign, then 1 to 12 letters."""
    if not isinstance(value, str) or not 2 <= len(value) <= MOST_LETTERS + 1:
        return False
    return value[0] in ("+", "-") and all([letter in LETTERS_BY_BITS for letter in value[1:]])


def are_operators(value, least, most):
    """Whether the value is a tuple of so many operators of one length."""
    if not has_size(value, least, most) or not all([is_operator(operator) for operator in value]):
        return False
    return all([len(operator) == len(value[0]) for operator in value])


def check_operators(*values):
    """InvalidOperator for the first that is no operator; InvalidOperation for unlike lengths."""
    for value in values:
        if not is_operator(value):
            raise InvalidOperator("an operator is a sign and 1 to 12 letters")
    if any([len(value) != len(values[0]) for value in values]):
        raise InvalidOperation("unlike lengths")


def check_row(value):
    """InvalidOperator unless the value is a row."""
    if not are_operators(value, 1, MOST_OPERATORS):
        raise InvalidOperator("a row is a tuple of 1 to 24 operators of one length")


def check_rows(row, others):
    """The errors of two rows."""
    check_row(row)
    check_row(others)
    if len(row[0]) != len(others[0]) or len(row) != len(others):
        raise InvalidOperation("the rows have unlike lengths")


def letter_bits(operator):
    """The row of the first bits of the letters, and that of the second bits."""
    places = [LETTERS_BY_BITS.index(letter) for letter in operator[1:]]
    return tuple([place & 1 for place in places]), tuple([place >> 1 for place in places])


def letters_of(firsts, seconds):
    """The letters with these rows of bits."""
    return "".join([LETTERS_BY_BITS[first + 2 * second] for first, second in zip(firsts, seconds)])


def form_of(operator):
    """The form of an operator."""
    firsts, seconds = [mask_of(row) for row in letter_bits(operator)]
    return 2 * int(operator[0] == "-") + operator.count("Y"), firsts, seconds


def told_form(form, length):
    """The pair (k, operator) of a form of so many letters: the power k of i, and the operator with the sign 1."""
    power, firsts, seconds = form
    letters = letters_of(row_of(firsts, length), row_of(seconds, length))
    return (power - letters.count("Y")) & 3, f"+{letters}"


def form_times(one, other):
    """The form of one times other: a sign comes for each X of the other that passes a Z of the one."""
    passed = ones(one[2] & other[1])
    return (one[0] + other[0] + 2 * passed) & 3, one[1] ^ other[1], one[2] ^ other[2]


def does_commute(one, other):
    """Whether two operators of one length commute."""
    _, firsts, seconds = form_of(one)
    _, others, further = form_of(other)
    return (ones(firsts & further) + ones(seconds & others)) & 1 == 0


def do_commute(one, other):
    """Whether both operators commute."""
    check_operators(one, other)
    return does_commute(one, other)


def bits_of(operator):
    """The bit of the sign, the tuple of the first bits, and that of the second bits."""
    check_operators(operator)
    firsts, seconds = letter_bits(operator)
    return int(operator[0] == "-"), firsts, seconds


def times_all(operators):
    """The product of operators of one length, one at least: the power k of i, and the operator with the sign 1."""
    form = (0, 0, 0)
    for operator in operators:
        form = form_times(form, form_of(operator))
    return told_form(form, len(operators[0]) - 1)


def times(one, other):
    """The pair (k, operator): one times other is the power k of i times this operator with the sign 1."""
    check_operators(one, other)
    return times_all([one, other])


def with_sign(bit, operator):
    """The operator with the sign of the bit in the place of its own."""
    return ("-" if bit else "+") + operator[1:]


def product(one, other):
    """The product of two operators that commute."""
    check_operators(one, other)
    power, found = times_all([one, other])
    if power & 1:
        raise InvalidOperation("the operators do not commute")
    return with_sign(power >> 1, found)


def is_choice(value, many):
    """Whether the value is an ascending tuple of indices below many, at least one."""
    return are_ascending(value, many) and value != ()


def product_of(row, indices):
    """The product of those with these indices, in their sequence, told as times tells it."""
    check_row(row)
    if not is_choice(indices, len(row)):
        raise InvalidOperation("an ascending tuple of indices, at least one, is asked for")
    return times_all([row[at] for at in indices])


def turned_by(operator, by):
    """Where the quarter turn by an operator of the same length leads an operator."""
    power, found = times_all([by, operator])
    return with_sign((power + 1) >> 1 & 1, found) if power & 1 else operator


def quarter(operator, by):
    """Where the quarter turn by the second operator leads the first one."""
    check_operators(operator, by)
    return turned_by(operator, by)


def is_one(letters):
    """Whether an operator has letters I alone."""
    return letters.count("I") == len(letters) - 1


def is_unlike_pair(row, others, i, j):
    """Whether two commute in just one of the rows."""
    return does_commute(row[i], row[j]) != does_commute(others[i], others[j])


def is_unlike_lot(row, others, indices):
    """Whether the product of some is a power of i in one row, and not this power in the other one."""
    one = times_all([row[at] for at in indices])
    other = times_all([others[at] for at in indices])
    return one != other and (is_one(one[1]) or is_one(other[1]))


def bits_together(operator):
    """The mask of the first bits of an operator, and of the second ones behind them."""
    firsts, seconds = letter_bits(operator)
    return mask_of(firsts + seconds)


def relations(row):
    """The picks of a basis of all lots of the row whose bits sum to zeros; the last index of each is in no other."""
    _, empty = put_apart([bits_together(operator) for operator in row])
    return empty


def some_unlike(row, others):
    """("pair", i, j) or ("lot", indices) that tells the rows apart, or None."""
    for i, j in pairs_below(len(row)):
        if is_unlike_pair(row, others, i, j):
            return ("pair", i, j)
    for pick in relations(row) + relations(others):
        if is_unlike_lot(row, others, places_of(pick)):
            return ("lot", places_of(pick))
    return None


def letters_apart(operators, bits):
    """An operator that does not commute with just those whose bit is 1; there is one for these bits."""
    length = len(operators[0]) - 1
    halves = [letter_bits(operator) for operator in operators]
    # Its first bits meet the second ones of the others, its second bits the first ones.
    _, found = solved_masks([mask_of(seconds + firsts) for firsts, seconds in halves], pick_where(bits))
    row = row_of(found, 2 * length)
    return "+" + letters_of(row[:length], row[length:])


def turns_to(here, there, ahead):
    """Quarter turns that lead the letters of one operator to those of another one, and leave those ahead.

    Both commute with the same ones of those ahead, and neither is a product of them.
    """
    if here[1:] == there[1:]:
        return []
    if not does_commute(here, there):
        return [times_all([here, there])[1]]
    bits = [1, 1] + [int(not does_commute(here, operator)) for operator in ahead]
    between = letters_apart([here, there, *ahead], bits)
    return [times_all([here, between])[1], times_all([between, there])[1]]


def led_by(row, turns):
    """Where quarter turns, one behind the other, lead each one of a row."""
    found = list(row)
    for by in turns:
        found = [turned_by(operator, by) for operator in found]
    return tuple(found)


def turns_between(row, others):
    """Quarter turns that lead one row to another one from which nothing tells it apart."""
    summed = [pick.bit_length() - 1 for pick in relations(row)]
    free = [at for at in range(len(row)) if at not in summed]
    turns = []
    now = row
    for place, at in enumerate(free):
        more = turns_to(now[at], others[at], [others[index] for index in free[:place]])
        now = led_by(now, more)
        turns.extend(more)
    wrong = [int(now[at] != others[at]) for at in free]
    if any(wrong):
        # Twice by what does not commute with just these turns their signs.
        turns.extend([letters_apart([others[at] for at in free], wrong)] * 2)
    return tuple(turns)


def led_or_unlike(row, others):
    """("led", turns) by which quarter turns lead the row to the other one, or ("pair", i, j), or ("lot", indices)."""
    check_rows(row, others)
    found = some_unlike(row, others)
    return ("led", turns_between(row, others)) if found is None else found


def are_turns(value, length):
    """Whether the value is a tuple of at most 200 operators of this length, its sign counted."""
    return are_operators(value, 0, MOST_TURNS) and all([len(by) == length for by in value])


def is_led_or_unlike(row, others, value):
    """Whether the value is what led_or_unlike may return."""
    check_rows(row, others)
    if is_told(value, "led"):
        return are_turns(value[1], len(row[0])) and led_by(row, value[1]) == others
    if is_told(value, "lot"):
        return is_choice(value[1], len(row)) and is_unlike_lot(row, others, value[1])
    if not has_form(value, "pair", 3) or not all([is_index(at, len(row)) for at in value[1:]]):
        return False
    return value[1] < value[2] and is_unlike_pair(row, others, value[1], value[2])
