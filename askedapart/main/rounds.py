"""Undoings from turnings that draw a piece of a paired book, and the turnings that such undoings tell."""

from askedapart.base.checks import has_size, is_index
from askedapart.errors import InvalidNumber, InvalidOperation, InvalidRow, InvalidTurning, Refused
from askedapart.net.graphs import check_paired, graph_of
from askedapart.net.turns import handles, is_turning
from askedapart.say.books import MOST_UNKNOWNS, is_odd, is_paired, pieces, with_unknown
from askedapart.say.undoings import is_undoing, sayings_put

MOST_IN_ROW = 200


def check_turning_of(book, turning):
    """InvalidTurning unless this is a turning of the graph of a paired book."""
    if not is_turning(graph_of(book), turning):
        raise InvalidTurning("no turning of the graph of the book")


def check_piece(book, piece):
    """The errors of a book with the index of a piece of it."""
    if not is_index(piece, len(pieces(book))):
        raise InvalidNumber(piece)


def check_turned_piece(book, turning, piece):
    """The errors of a book with a turning of its graph and a piece; then Refused(("pairs",)) unless it is paired."""
    # There is no graph to ask of a book that is not paired, but its pieces are there.
    if is_paired(book):
        check_turning_of(book, turning)
    check_piece(book, piece)
    check_paired(book)


def come_to(book, piece, growth):
    """The list of the sayings that a growth comes to, in their sequence, or None if it is none."""
    found = [pieces(book)[piece][0]]
    for unknown in growth:
        far = [saying for saying in with_unknown(book, unknown) if saying not in found]
        if len(far) != 1:
            return None
        found.append(far[0])
    return found


def is_growth(book, piece, value):
    """Whether the value is a growth of the piece."""
    check_piece(book, piece)
    check_paired(book)
    return is_told_growth(book, piece, value)


def is_told_growth(book, piece, value):
    """Whether the value is a growth of a piece of a paired book."""
    if not has_size(value, 0, len(book.sayings)) or not all([is_index(e, book.many) for e in value]):
        return False
    return come_to(book, piece, value) is not None


def turn_behind(turn, unknown):
    """The turn, begun at the unknown."""
    at = turn.index(unknown)
    return turn[at:] + turn[:at]


def row_of_growth(book, turning, piece, growth):
    """The row of a growth by the turning."""
    sayings = come_to(book, piece, growth)
    row = turning[sayings[0]]
    for unknown, saying in zip(growth, sayings[1:]):
        at = row.index(unknown)
        row = row[:at] + turn_behind(turning[saying], unknown)[1:] + row[at + 1:]
    return row


def row_by(book, turning, piece, growth):
    """The row of a growth by the turning."""
    check_turned_piece(book, turning, piece)
    if not is_told_growth(book, piece, growth):
        raise InvalidOperation("no growth of the piece")
    return row_of_growth(book, turning, piece, growth)


def cancels_left(row):
    """The places at which two equal neighbours go, one pair behind the other, and what is left."""
    left, places = [], []
    for unknown in row:
        if left and left[-1] == unknown:
            left.pop()
            places.append(len(left))
        else:
            left.append(unknown)
    return places, tuple(left)


def left_of(row):
    """What is left of a row if equal neighbours go, as long as there are some."""
    if not has_size(row, 0, MOST_IN_ROW) or not all([is_index(e, MOST_UNKNOWNS) for e in row]):
        raise InvalidRow("a row is a tuple of at most 200 integers from 0 to 23")
    return cancels_left(row)[1]


def whole_growth(book, piece):
    """A whole growth of a piece of a paired book: at each time the least unknown that comes to a saying."""
    growth = ()
    while len(growth) + 1 < len(pieces(book)[piece]):
        longer = [growth + (unknown,) for unknown in range(book.many)]
        growth = [found for found in longer if come_to(book, piece, found) is not None][0]
    return growth


def steps_by(book, turning, piece):
    """The steps that the row of a whole growth by a turning tells, with cancels of all equal neighbours."""
    growth = whole_growth(book, piece)
    sayings = come_to(book, piece, growth)
    row = turning[sayings[0]]
    steps = [("put", 0, sayings[0], row)]
    for unknown, saying in zip(growth, sayings[1:]):
        at = row.index(unknown)
        members = turn_behind(turning[saying], unknown)
        steps.extend([("put", at + 1, saying, members), ("cancel", at)])
        row = row[:at] + members[1:] + row[at + 1:]
    places, _ = cancels_left(row)
    return (*steps, *[("cancel", at) for at in places])


def undoing_by(book, turning, piece):
    """An undoing with one put for each saying of the piece, as its turn tells it, no other puts, and no swap."""
    check_turned_piece(book, turning, piece)
    if not is_odd(book, pieces(book)[piece]):
        raise Refused(("even",))
    found = handles(graph_of(book), turning)[piece]
    if found > 0:
        raise Refused(("handles", found))
    return steps_by(book, turning, piece)


def is_plain_undoing(book, lot, value):
    """Whether the value is an undoing with one put for each saying of a piece, a cancel for each unknown, no swap."""
    if not is_undoing(book, value) or sorted(sayings_put(value)) != list(lot):
        return False
    cancels = len([step for step in value if step[0] == "cancel"])
    # In a piece of a book that is not paired an unknown may go more than once.
    return len(value) == len(lot) + cancels and cancels == len({e for at in lot for e in book.sayings[at][0]})


def is_undoing_by(book, turning, piece, value):
    """Whether the value is what undoing_by may return."""
    check_turned_piece(book, turning, piece)
    if not is_plain_undoing(book, pieces(book)[piece], value):
        return False
    puts = [step for step in value if step[0] == "put"]
    return all([members == turn_behind(turning[saying], members[0]) for _, _, saying, members in puts])


def turning_by(book, steps):
    """The turning that an undoing with one put for each saying of some piece, and no swap, tells."""
    if not any([is_plain_undoing(book, lot, steps) for lot in pieces(book)]):
        raise InvalidOperation("no undoing with one put for each saying of a piece, and without swaps")
    check_paired(book)
    told = {step[2]: step[3] for step in steps if step[0] == "put"}
    return tuple([told.get(saying, members) for saying, (members, _) in enumerate(book.sayings)])
