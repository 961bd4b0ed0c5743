"""One outcome a saying: outcomes that agree, picks, the most that agree, and outcomes of right operators."""

from askedapart.base.bits import put_apart
from askedapart.base.checks import has_size, is_index, is_told
from askedapart.errors import InvalidOperation, Refused
from askedapart.net.graphs import check_paired
from askedapart.play.games import is_row_for
from askedapart.say.books import check_book, check_saying, does_cancel, is_lot, is_odd, pieces
from askedapart.say.signs import are_right, is_signs_or_lot, is_true, sign_count, signs_for, signs_or_lot
from askedapart.sign.answers import check_operators_for, check_right
from askedapart.sign.operators import bits_together
from askedapart.sign.sums import does_keep, rows_keeping, sure_sums


def is_told_outcome(book, value):
    """Whether the value is an outcome of what is known to be a book."""
    if not has_size(value, 2, 2) or not is_index(value[0], len(book.sayings)):
        return False
    return is_row_for(value[1], book.sayings[value[0]])


def is_outcome(book, value):
    """Whether the value is an outcome: a saying, and a bit for each member, with the sum of its bit."""
    check_book(book)
    return is_told_outcome(book, value)


def check_outcomes(book, *values):
    """InvalidOperation unless the values are outcomes."""
    if not all([is_told_outcome(book, value) for value in values]):
        raise InvalidOperation("an outcome is a saying, and a bit for each member, with the sum of its bit")


def outcomes_of(book, saying):
    """The ascending tuple of the bits of the outcomes of a saying."""
    check_book(book)
    check_saying(book, saying)
    members, bit = book.sayings[saying]
    return tuple(rows_keeping([((1 << len(members)) - 1, bit)], len(members)))


def told_by(book, outcome):
    """The dict from the unknowns of the saying of an outcome to their bits."""
    saying, bits = outcome
    return dict(zip(book.sayings[saying][0], bits))


def does_agree(book, one, other):
    """Whether two outcomes tell equal bits for all unknowns that both sayings have."""
    told = told_by(book, one)
    return all([told.get(e, bit) == bit for e, bit in told_by(book, other).items()])


def do_agree(book, one, other):
    """Whether two outcomes agree."""
    check_book(book)
    check_outcomes(book, one, other)
    return does_agree(book, one, other)


def first_apart(book, row):
    """The least pair of indices of two outcomes of a row that do not agree, or None."""
    # What came ahead has been compared with all behind it, so that equal ones need not be compared once more.
    first = {}
    for at, outcome in enumerate(row):
        first.setdefault(outcome, at)
    places = list(first.values())
    for at, i in enumerate(places):
        for j in places[at + 1:]:
            if not does_agree(book, row[i], row[j]):
                return i, j
    return None


def signs_telling(book, outcomes):
    """The bits for all unknowns that agreeing outcomes tell, 0 where none does."""
    check_book(book)
    if not isinstance(outcomes, tuple):
        raise InvalidOperation("a tuple of outcomes is asked for")
    check_outcomes(book, *outcomes)
    found = first_apart(book, outcomes)
    if found is not None:
        raise Refused(("apart", *found))
    told = {}
    for outcome in outcomes:
        told.update(told_by(book, outcome))
    return tuple([told.get(e, 0) for e in range(book.many)])


def is_told_pick(book, value):
    """Whether the value is a pick of what is known to be a book."""
    many = len(book.sayings)
    if not has_size(value, many, many):
        return False
    if not all([is_row_for(row, saying) for row, saying in zip(value, book.sayings)]):
        return False
    return first_apart(book, list(enumerate(value))) is None


def is_pick(book, value):
    """Whether the value is a pick: the bits of an outcome for each saying, each two agreeing."""
    check_book(book)
    return is_told_pick(book, value)


def rows_by(book, signs):
    """For each saying the row of the bits of its members."""
    return tuple([tuple([signs[e] for e in members]) for members, _ in book.sayings])


def pick_by(book, signs):
    """The pick of right signs."""
    if not are_right(book, signs):
        raise InvalidOperation("the signs are not right for the book")
    return rows_by(book, signs)


def pick_count(book):
    """How many picks there are: as many as right signs, as each unknown stands in some saying."""
    return sign_count(book)


def pick_or_lot(book):
    """("pick", pick), or ("lot", lot) with an odd lot that cancels."""
    word, found = signs_or_lot(book)
    return ("pick", rows_by(book, found)) if word == "signs" else ("lot", found)


def is_pick_or_lot(book, value):
    """Whether the value is what pick_or_lot may return."""
    check_book(book)
    if is_told(value, "pick"):
        return is_told_pick(book, value[1])
    return is_told(value, "lot") and is_signs_or_lot(book, value)


def most_agreeing(book):
    """Agreeing outcomes of all sayings but one of each odd piece, and the odd pieces."""
    check_paired(book)
    odd = tuple([lot for lot in pieces(book) if is_odd(book, lot)])
    signs = signs_for(book, tuple([lot[0] for lot in odd]))
    true = [at for at, saying in enumerate(book.sayings) if is_true(saying, signs)]
    rows = rows_by(book, signs)
    return tuple([(at, rows[at]) for at in true]), odd


def are_agreeing(book, value):
    """Whether the value is an ascending tuple of outcomes of unlike sayings, each two agreeing."""
    if not has_size(value, 0, len(book.sayings)) or not all([is_told_outcome(book, outcome) for outcome in value]):
        return False
    if not all([value[k][0] < value[k + 1][0] for k in range(len(value) - 1)]):
        return False
    return first_apart(book, value) is None


def are_odd_lots(book, value):
    """Whether the value is an ascending tuple of odd lots that cancel, no saying being in two."""
    if not has_size(value, 0, len(book.sayings)) or not all([is_lot(book, lot) for lot in value]):
        return False
    if not all([does_cancel(book, lot) and is_odd(book, lot) for lot in value]):
        return False
    met = [saying for lot in value for saying in lot]
    return len(set(met)) == len(met) and all([value[k] < value[k + 1] for k in range(len(value) - 1)])


def is_most_agreeing(book, value):
    """Whether the value is a pair of agreeing outcomes, and of as many odd lots as sayings are without an outcome."""
    check_book(book)
    if not has_size(value, 2, 2) or not are_agreeing(book, value[0]) or not are_odd_lots(book, value[1]):
        return False
    return len(value[0]) + len(value[1]) == len(book.sayings)


def operators_in(book, operators, saying):
    """The list of the operators of a saying."""
    return [operators[e] for e in book.sayings[saying][0]]


def outcomes_by(book, operators, saying):
    """The ascending tuple of the bits of all outcomes of a saying that can come."""
    check_operators_for(book, operators)
    check_saying(book, saying)
    check_right(book, operators)
    row = operators_in(book, operators, saying)
    return tuple(rows_keeping(sure_sums(row), len(row)))


def is_coming(book, operators, outcome):
    """Whether an outcome can come."""
    saying, bits = outcome
    return does_keep(sure_sums(operators_in(book, operators, saying)), bits)


def check_coming(book, operators, one, other):
    """The errors of a book with right operators and two outcomes that can come."""
    check_operators_for(book, operators)
    check_outcomes(book, one, other)
    check_right(book, operators)
    if not is_coming(book, operators, one) or not is_coming(book, operators, other):
        raise InvalidOperation("the outcome cannot come")


def row_of_both(book, operators, one, other):
    """The list of the operators of the sayings of two outcomes, one behind the other."""
    return operators_in(book, operators, one[0]) + operators_in(book, operators, other[0])


def does_bar(book, operators, one, other):
    """Whether one tells an operator, and the other one the same with the other sign."""
    # What both tell alike, but for the sign, are just the products of some of both rows that have letters I alone.
    return not does_keep(sure_sums(row_of_both(book, operators, one, other)), one[1] + other[1])


def do_bar(book, operators, one, other):
    """Whether two outcomes that can come bar one another."""
    check_coming(book, operators, one, other)
    return does_bar(book, operators, one, other)


def both_chance(book, operators, one, other):
    """The chance of the one outcome at the one end, and of the other one at the other end of shared pairs."""
    check_coming(book, operators, one, other)
    if does_bar(book, operators, one, other):
        return (0, 1)
    kept, _ = put_apart([bits_together(operator) for operator in row_of_both(book, operators, one, other)])
    return (1, 1 << len(kept))
