"""The answer for a paired book: right signs, right operators, or an undoing."""

from askedapart.base.checks import are_ascending, is_told
from askedapart.errors import InvalidOperation
from askedapart.main.lifts import lifted
from askedapart.main.rounds import steps_by
from askedapart.net.bars import some_bar
from askedapart.net.draw import turning_of
from askedapart.net.graphs import check_paired, graph_of
from askedapart.say.books import check_book, is_odd, piece_book, pieces
from askedapart.say.signs import are_right, sign_count, signs_or_lot
from askedapart.say.undoings import is_undoing
from askedapart.sign.answers import are_right_operators, check_operators_for
from askedapart.sign.operators import with_sign


def turning_of_piece(book, lot):
    """A turning that draws the graph of one piece of a paired book alone, or None if there is none."""
    graph = graph_of(book)
    return turning_of(graph, [line for line, ends in enumerate(graph.lines) if ends[0] in lot])


def kind_of(book, lot):
    """The kind of a piece of a paired book."""
    if not is_odd(book, lot):
        return "even"
    return "barred" if turning_of_piece(book, lot) is None else "planar"


def kinds(book):
    """The tuple of the kinds of all pieces."""
    check_paired(book)
    return tuple([kind_of(book, lot) for lot in pieces(book)])


def piece_operators(book, piece):
    """The dict from the unknowns of a piece that is even or barred to right operators for it."""
    inner, olds = piece_book(book, piece)
    word, found = signs_or_lot(inner)
    if word == "signs":
        return dict(zip(olds, [with_sign(bit, "+I") for bit in found]))
    return dict(zip(olds, lifted(inner, some_bar(graph_of(inner)))))


def shared_operators(book):
    """Right operators of a book without planar pieces, all pieces sharing their qubits."""
    found = {}
    for piece in range(len(pieces(book))):
        found.update(piece_operators(book, piece))
    length = max([len(operator) for operator in list(found.values())])
    return tuple([found[e] + "I" * (length - len(found[e])) for e in range(book.many)])


def answer(book):
    """("signs", bits), or ("operators", operators) where no signs are right, or ("undoing", steps)."""
    check_paired(book)
    odd = [piece for piece, lot in enumerate(pieces(book)) if is_odd(book, lot)]
    if odd == []:
        return signs_or_lot(book)
    for piece in odd:
        turning = turning_of_piece(book, pieces(book)[piece])
        if turning is not None:
            return ("undoing", steps_by(book, turning, piece))
    return ("operators", shared_operators(book))


def is_answer(book, value):
    """Whether the value is right signs, right operators where no signs are right, or an undoing, behind its word."""
    check_paired(book)
    if is_told(value, "signs"):
        return are_right(book, value[1])
    if is_told(value, "operators"):
        return sign_count(book) == 0 and are_right_operators(book, value[1])
    return is_told(value, "undoing") and is_undoing(book, value[1])


def turned_operators(book, unknowns, operators):
    """The operators with the signs of some unknowns turned."""
    check_book(book)
    if not are_ascending(unknowns, book.many):
        raise InvalidOperation("an ascending tuple of unknowns is asked for")
    check_operators_for(book, operators)
    check_paired(book)
    return tuple([with_sign((operator[0] == "-") != (e in unknowns), operator) for e, operator in enumerate(operators)])
