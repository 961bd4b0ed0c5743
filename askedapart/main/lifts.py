"""Operators led along the ways of a bar, and the fewest qubits: six branches, or a parting of the sheet."""

from askedapart.base.checks import is_told
from askedapart.errors import Refused
from askedapart.net.bars import bar_of, check_bar, is_bar, some_bar
from askedapart.net.graphs import check_graph, check_paired, graph_of
from askedapart.net.sheets import is_parting, parting_of, sheet_of
from askedapart.net.walks import all_lines, ends_of
from askedapart.say.books import is_odd, is_paired, pieces
from askedapart.sign.answers import are_right_operators, with_right_signs
from askedapart.sign.operators import is_one

NINE = ("+XI", "+IX", "+XX", "+IZ", "+ZI", "+ZZ", "+XZ", "+ZX", "+YY")
TEN = ("+XII", "+IXI", "+IIX", "+XXX", "+IIZ", "+IZI", "+XZZ", "+ZII", "+ZXZ", "+ZZX")


def check_lone(book):
    """Refused unless the book is paired, in one piece, and with an odd sum of all bits."""
    check_paired(book)
    if len(pieces(book)) > 1:
        raise Refused(("pieces",))
    if not is_odd(book, pieces(book)[0]):
        raise Refused(("even",))


def check_lifted(book, bar):
    """The errors of a book with a bar of its graph."""
    if is_paired(book):
        check_bar(graph_of(book), bar)
    check_lone(book)


def led_along(book, ways, letters):
    """Right operators with one string of letters on each way, and letters I alone on all other unknowns."""
    found = {line: string for way, string in zip(ways, letters) for line in way}
    idle = "+" + "I" * (len(letters[0]) - 1)
    return with_right_signs(book, [found.get(line, idle) for line in range(book.many)])


def lifted(book, bar):
    """Right operators, led along the ways of a bar."""
    check_lifted(book, bar)
    return led_along(book, bar[-1], NINE if bar[0] == "six" else TEN)


def is_lifted(book, bar, value):
    """Whether the value is what lifted may return."""
    check_lifted(book, bar)
    if not are_right_operators(book, value):
        return False
    led = [line for way in bar[-1] for line in way]
    if not all([is_one(value[line]) for line in range(book.many) if line not in led]):
        return False
    return all([value[line][1:] == value[way[0]][1:] for way in bar[-1] for line in way])


def told_parting(graph):
    """A parting of the sheet of a graph, or None if ways join three of its knots with three others."""
    steps = parting_of(graph.many, sheet_of(graph.lines))
    return None if steps is None else tuple(steps)


def six_among(graph):
    """The bar of six that is left if lines are taken away as long as there is one."""
    left = all_lines(graph)
    for line in all_lines(graph):
        less = [other for other in left if other != line]
        if parting_of(graph.many, sheet_of(ends_of(graph, less))) is None:
            left = less
    return bar_of(graph, left)


def six_or_parting(graph):
    """A bar ("six", ones, others, ways), or ("parted", parting) with a parting of the sheet of the graph."""
    check_graph(graph)
    parting = told_parting(graph)
    return six_among(graph) if parting is None else ("parted", parting)


def is_six_or_parting(graph, value):
    """Whether the value is what six_or_parting may return."""
    check_graph(graph)
    if is_told(value, "parted"):
        return is_parting(graph.many, sheet_of(graph.lines), value[1])
    return is_bar(graph, value) and value[0] == "six"


def fewest_bar(book):
    """A bar of six of the graph of a book, or one of five if there is none; then Refused(("planar",))."""
    check_lone(book)
    found = six_or_parting(graph_of(book))
    if found[0] == "parted":
        found = some_bar(graph_of(book))
    if found is None:
        raise Refused(("planar",))
    return found


def fewest_qubits(book):
    """The least number of letters of right operators."""
    return 2 if fewest_bar(book)[0] == "six" else 3


def few_operators(book):
    """Right operators with as few letters as can be."""
    return lifted(book, fewest_bar(book))
