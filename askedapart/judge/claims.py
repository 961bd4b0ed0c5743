"""Claims with their opposites, papers that show them, and one judge who takes papers and searches for nothing."""

from askedapart.base.checks import has_form, has_size, is_index, is_order
from askedapart.errors import InvalidClaim, InvalidOperation, UnknownName
from askedapart.main.answers import answer
from askedapart.main.lesser import core_or_turning, is_core_or_turning
from askedapart.main.lifts import is_six_or_parting, six_or_parting
from askedapart.main.rounds import undoing_by
from askedapart.more.odds import is_numbers_or_weights, is_odd_book, numbers_or_weights
from askedapart.net.arcs import is_moves_or_table, is_odd_table, moves_or_table
from askedapart.net.bars import is_bar
from askedapart.net.graphs import Graph
from askedapart.net.plane import is_turning_or_bar, turning_or_bar
from askedapart.say.books import Book, is_odd, is_paired, pieces
from askedapart.say.signs import is_signs_or_lot, signs_or_lot
from askedapart.say.undoings import is_undoing, paper_of
from askedapart.sign.answers import are_right_operators, is_operators_or_bar, operators_or_bar
from askedapart.sign.operators import MOST_OPERATORS, are_operators, is_led_or_unlike, led_or_unlike, with_sign

MOST_CLAIMS = 8
OPPOSITES = {
    "bar": "planar", "barred": "operators", "core": "flat", "each": "some", "even": "odd", "flat": "core",
    "held": "undone", "led": "unlike", "lot": "signs", "numbers": "weights", "odd": "even", "operators": "barred",
    "parted": "six", "planar": "bar", "signs": "lot", "six": "parted", "some": "each", "undone": "held",
    "unlike": "led", "weights": "numbers",
}
LED_ON = (("undone", "barred"), ("flat", "undone"), ("flat", "barred"))


def is_of_book(things):
    """Whether these are one book."""
    return has_size(things, 1, 1) and isinstance(things[0], Book)


def is_of_paired(things):
    """Whether these are one paired book."""
    return is_of_book(things) and is_paired(things[0])


def is_of_lone(things):
    """Whether these are one paired book in one piece with an odd sum of all bits."""
    return is_of_paired(things) and len(pieces(things[0])) == 1 and is_odd(things[0], pieces(things[0])[0])


def is_of_graph(things):
    """Whether these are one graph."""
    return has_size(things, 1, 1) and isinstance(things[0], Graph)


def is_of_rows(things):
    """Whether these are two rows of equally many operators of one length."""
    if not has_size(things, 2, 2) or not all([are_operators(row, 1, MOST_OPERATORS) for row in things]):
        return False
    return len(things[0]) == len(things[1]) and len(things[0][0]) == len(things[1][0])


def is_of_odd_book(things):
    """Whether these are one odd book."""
    return has_size(things, 1, 1) and is_odd_book(things[0])


def is_settled_by_bits(word, book, value):
    """Whether the value is a paper about signs."""
    return is_signs_or_lot(book, (word, value))


def is_settled_by_operators(word, book, value):
    """Whether the value is a paper about operators."""
    if word == "operators":
        return are_right_operators(book, value)
    return has_size(value, 3, 3) and is_operators_or_bar(book, (word, *value))


def is_settled_by_steps(word, book, value):
    """Whether the value is a paper about operators or an undoing of a paired book."""
    return are_right_operators(book, value) if word == "held" else is_undoing(book, value)


def is_settled_by_turning(word, graph, value):
    """Whether the value is a paper about a graph in the plane."""
    return is_turning_or_bar(graph, ("drawn", value)) if word == "planar" else is_bar(graph, value)


def is_settled_by_moves(word, graph, value):
    """Whether the value is a paper about crossings on a row."""
    if word == "odd":
        return is_odd_table(graph, value)
    if not has_size(value, 2, 2) or not is_order(value[0], graph.many):
        return False
    return is_moves_or_table(graph, value[0], ("moves", value[1]))


def is_settled_by_parting(word, graph, value):
    """Whether the value is a paper about bars of six."""
    if word == "six":
        return is_bar(graph, value) and value[0] == "six"
    return is_six_or_parting(graph, ("parted", value))


def is_settled_by_core(word, book, value):
    """Whether the value is a paper about lesser books."""
    return is_core_or_turning(book, ("core" if word == "core" else "drawn", value))


def is_settled_by_turns(word, row, others, value):
    """Whether the value is a paper about two rows of operators."""
    if word == "led":
        return is_led_or_unlike(row, others, ("led", value))
    return not has_form(value, "led", 2) and is_led_or_unlike(row, others, value)


def is_settled_by_numbers(word, book, value):
    """Whether the value is a paper about an odd book."""
    return is_numbers_or_weights(book, (word, value))


def settle_signs(book):
    """The word of the true one of both claims about signs, and a paper of it."""
    return signs_or_lot(book)


def settle_operators(book):
    """The word of the true one of both claims about operators, and a paper of it."""
    found = operators_or_bar(book)
    return found if found[0] == "operators" else ("barred", found[1:])


def settle_held(book):
    """The word of the true one of both claims about a paired book, and a paper of it."""
    word, found = answer(book)
    if word == "signs":
        return "held", tuple([with_sign(bit, "+I") for bit in found])
    return ("held", found) if word == "operators" else ("undone", found)


def settle_planar(graph):
    """The word of the true one of both claims about a graph in the plane, and a paper of it."""
    found = turning_or_bar(graph)
    return ("planar", found[1]) if found[0] == "drawn" else ("bar", found)


def settle_even(graph):
    """The word of the true one of both claims about crossings, and a paper of it."""
    order = tuple(range(graph.many))
    word, found = moves_or_table(graph, order)
    return ("even", (order, found)) if word == "moves" else ("odd", found)


def settle_six(graph):
    """The word of the true one of both claims about bars of six, and a paper of it."""
    found = six_or_parting(graph)
    return found if found[0] == "parted" else ("six", found)


def settle_core(book):
    """The word of the true one of both claims about lesser books, and a paper of it."""
    found = core_or_turning(book)
    return found if found[0] == "core" else ("flat", found[1])


def settle_led(row, others):
    """The word of the true one of both claims about two rows, and a paper of it."""
    found = led_or_unlike(row, others)
    return found if found[0] == "led" else ("unlike", found)


def settle_numbers(book):
    """The word of the true one of both claims about an odd book, and a paper of it."""
    return numbers_or_weights(book)


THINGS = {
    "signs": is_of_book, "lot": is_of_book, "operators": is_of_book, "barred": is_of_book, "held": is_of_paired,
    "undone": is_of_paired, "planar": is_of_graph, "bar": is_of_graph, "even": is_of_graph, "odd": is_of_graph,
    "six": is_of_graph, "parted": is_of_graph, "core": is_of_lone, "flat": is_of_lone, "led": is_of_rows,
    "unlike": is_of_rows, "numbers": is_of_odd_book, "weights": is_of_odd_book,
}
JUDGES = {
    "signs": is_settled_by_bits, "lot": is_settled_by_bits, "operators": is_settled_by_operators,
    "barred": is_settled_by_operators, "held": is_settled_by_steps, "undone": is_settled_by_steps,
    "planar": is_settled_by_turning, "bar": is_settled_by_turning, "even": is_settled_by_moves,
    "odd": is_settled_by_moves, "six": is_settled_by_parting, "parted": is_settled_by_parting,
    "core": is_settled_by_core, "flat": is_settled_by_core, "led": is_settled_by_turns,
    "unlike": is_settled_by_turns, "numbers": is_settled_by_numbers, "weights": is_settled_by_numbers,
}
SETTLING = {
    "signs": settle_signs, "lot": settle_signs, "operators": settle_operators, "barred": settle_operators,
    "held": settle_held, "undone": settle_held, "planar": settle_planar, "bar": settle_planar, "even": settle_even,
    "odd": settle_even, "six": settle_six, "parted": settle_six, "core": settle_core, "flat": settle_core,
    "led": settle_led, "unlike": settle_led, "numbers": settle_numbers, "weights": settle_numbers,
}


def is_single(value):
    """Whether the value is a claim other than of several ones."""
    if not has_size(value, 2, 3) or not isinstance(value[0], str) or value[0] not in THINGS:
        return False
    fits = THINGS[value[0]]
    return fits(value[1:])


def is_several(value):
    """Whether the value is a claim of 1 to 8 other ones."""
    if not has_form(value, "each", 2) and not has_form(value, "some", 2):
        return False
    return has_size(value[1], 1, MOST_CLAIMS) and all([is_single(claim) for claim in value[1]])


def is_claim(value):
    """Whether the value is a claim."""
    return is_single(value) or is_several(value)


def check_claim(value):
    """InvalidClaim unless the value is a claim."""
    if not is_claim(value):
        raise InvalidClaim("no claim")


def opposite_of(claim):
    """The opposite of a claim other than of several ones."""
    return (OPPOSITES[claim[0]], *claim[1:])


def opposite(claim):
    """The opposite of a claim."""
    check_claim(claim)
    if is_single(claim):
        return opposite_of(claim)
    return OPPOSITES[claim[0]], tuple([opposite_of(one) for one in claim[1]])


def does_take_single(claim, value):
    """Whether the value is a paper of a claim other than of several ones."""
    judge = JUDGES[claim[0]]
    return judge(*claim, value)


def does_take(claim, value):
    """Whether this is a claim, and the value a paper of it."""
    if is_single(claim):
        return does_take_single(claim, value)
    if not is_several(claim):
        return False
    word, claims = claim
    if word == "each":
        many = len(claims)
        return has_size(value, many, many) and all([does_take_single(one, paper) for one, paper in zip(claims, value)])
    return has_size(value, 2, 2) and is_index(value[0], len(claims)) and does_take_single(claims[value[0]], value[1])


def settled_single(claim):
    """The true one of a claim other than of several ones and its opposite, and a paper of it."""
    word, *things = claim
    settle = SETTLING[word]
    found, paper = settle(*things)
    return (found, *things), paper


def settled(claim):
    """The true one of a claim and its opposite, and a paper of it."""
    check_claim(claim)
    if is_single(claim):
        return settled_single(claim)
    found = [settled_single(one) for one in claim[1]]
    # "each" fails by one claim that is not true, "some" holds by one that is.
    deciding = [at for at, (true, _) in enumerate(found) if (true[0] == claim[1][at][0]) == (claim[0] == "some")]
    told = claim if (claim[0] == "some") == (deciding != []) else opposite(claim)
    if deciding:
        return told, (deciding[0], found[deciding[0]][1])
    return told, tuple([paper for _, paper in found])


def led_paper(claim, value, word):
    """A paper of the claim with this word about the same book, made of a paper of the claim."""
    check_claim(claim)
    if not does_take(claim, value):
        raise InvalidOperation("no paper of the claim")
    if (claim[0], word) not in LED_ON:
        raise UnknownName(word)
    book = claim[1]
    steps = undoing_by(book, value, 0) if claim[0] == "flat" else value
    return paper_of(book, steps) if word == "barred" else steps
