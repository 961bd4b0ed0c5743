"""Graphs: knots and lines between them, ways, pieces, trees, even lots, and two ways or a cut."""

from askedapart.base.checks import are_ascending, has_form, has_size, is_bit_for_each, is_index, is_integer, is_told
from askedapart.errors import InvalidBits, InvalidGraph, InvalidNumber, InvalidOperation, Refused
from askedapart.net.walks import all_lines, ends_of, first_cut, forest_among, knots_along, leaving, merged
from askedapart.net.walks import part_without, things_by, two_ways, way_along, with_knot
from askedapart.say.books import MOST_MEMBERS, Book, check_book, is_paired, with_unknown

MOST_KNOTS = 16
MOST_LINES = 24


class Graph:
    """A number of knots, and lines, each between two of them."""

    def __init__(self, many, lines):
        if not is_integer(many) or not 1 <= many <= MOST_KNOTS:
            raise InvalidGraph("a graph has 1 to 16 knots")
        if not has_size(lines, 0, MOST_LINES) or not all([are_ends(line, many) for line in lines]):
            raise InvalidGraph("a graph has a tuple of 0 to 24 lines, pairs of two knots, the lesser one ahead")
        self._many = many
        self._lines = lines

    @property
    def many(self):
        """How many knots there are."""
        return self._many

    @property
    def lines(self):
        """The tuple of the lines."""
        return self._lines

    def __eq__(self, other):
        return isinstance(other, Graph) and self._many == other._many and self._lines == other._lines

    def __str__(self):
        return f"graph of {self._many} knots, {len(self._lines)} lines"


def are_ends(value, many):
    """Whether the value is a pair of two knots below many, the lesser one ahead."""
    return has_size(value, 2, 2) and are_ascending(value, many)


def check_graph(value):
    """InvalidGraph unless the value is a graph."""
    if not isinstance(value, Graph):
        raise InvalidGraph("no graph")


def check_knot(graph, knot):
    """InvalidNumber unless this is a knot of the graph."""
    if not is_index(knot, graph.many):
        raise InvalidNumber(knot)


def check_line(graph, line):
    """InvalidNumber unless this is the index of a line of the graph."""
    if not is_index(line, len(graph.lines)):
        raise InvalidNumber(line)


def check_two_knots(graph, one, other):
    """The errors of a graph with two knots of it."""
    check_graph(graph)
    check_knot(graph, one)
    check_knot(graph, other)
    if one == other:
        raise InvalidOperation("two unlike knots are asked for")


def check_paired(book):
    """The errors of a book; then Refused(("pairs",)) unless it is paired."""
    check_book(book)
    if not is_paired(book):
        raise Refused(("pairs",))


def graph_of(book):
    """The graph of a paired book: its sayings are the knots, its unknowns the lines."""
    check_paired(book)
    return Graph(len(book.sayings), tuple([with_unknown(book, unknown) for unknown in range(book.many)]))


def book_of(graph, bits):
    """The paired book of the graph with these bits of its knots."""
    check_graph(graph)
    if not is_bit_for_each(bits, graph.many):
        raise InvalidBits("a tuple of a bit for each knot is asked for")
    members = [with_knot(graph, knot) for knot in range(graph.many)]
    for knot, lines in enumerate(members):
        if not 1 <= len(lines) <= MOST_MEMBERS:
            raise Refused(("lines", knot))
    return Book(len(graph.lines), tuple(zip(members, bits)))


def lines_at(graph, knot):
    """The ascending tuple of the lines at the knot."""
    check_graph(graph)
    check_knot(graph, knot)
    return with_knot(graph, knot)


def pieces_of(graph):
    """The ascending tuple of the pieces, ascending lots of knots."""
    check_graph(graph)
    return things_by(merged(graph.many, graph.lines))


def is_walk(graph, one, other, value):
    """Whether the value is a way between two unlike knots of the graph."""
    if not has_size(value, 1, graph.many) or not all([is_index(line, len(graph.lines)) for line in value]):
        return False
    knots = knots_along(graph, one, value)
    return knots != () and knots[-1] == other and len(set(knots)) == len(knots)


def is_way(graph, one, other, value):
    """Whether the value is a way from the one knot to the other one."""
    check_two_knots(graph, one, other)
    return is_walk(graph, one, other, value)


def way_or_apart(graph, one, other):
    """("way", way) from the one knot to the other one, or ("apart", lot) that no line leaves."""
    check_two_knots(graph, one, other)
    way = way_along(graph, one, other, all_lines(graph))
    if way:
        return ("way", way)
    return ("apart", part_without(graph, one, None, None))


def is_part(graph, one, other, value):
    """Whether the value is an ascending lot of knots that has the one knot, not the other one."""
    return are_ascending(value, graph.many) and one in value and other not in value


def is_way_or_apart(graph, one, other, value):
    """Whether the value is what way_or_apart may return."""
    check_two_knots(graph, one, other)
    if is_told(value, "way"):
        return is_walk(graph, one, other, value[1])
    return is_told(value, "apart") and is_part(graph, one, other, value[1]) and leaving(graph, value[1]) == []


def tree_of(graph):
    """A tree of the graph."""
    check_graph(graph)
    return forest_among(graph, all_lines(graph))


def is_tree(graph, value):
    """Whether the value is a tree of the graph."""
    check_graph(graph)
    # A tree joins what the graph joins, with no line more than that takes.
    if not are_ascending(value, len(graph.lines)) or len(value) != len(tree_of(graph)):
        return False
    return merged(graph.many, ends_of(graph, value)) == merged(graph.many, graph.lines)


def check_tree(graph, tree):
    """The errors of a graph with a tree of it."""
    if not is_tree(graph, tree):
        raise InvalidOperation("no tree of the graph")


def ring_of(graph, tree, line):
    """The ascending tuple of the lines of the ring that a line off the tree closes."""
    check_tree(graph, tree)
    check_line(graph, line)
    if line in tree:
        raise InvalidOperation("the line is in the tree")
    low, high = graph.lines[line]
    return tuple(sorted((line, *way_along(graph, low, high, tree))))


def rings_of(graph, tree, lines):
    """The ascending tuple of the lines off the tree whose rings sum to an even lot."""
    check_tree(graph, tree)
    if not is_even(graph, lines):
        raise InvalidOperation("no even lot of lines")
    return tuple([line for line in lines if line not in tree])


def is_even(graph, value):
    """Whether the value is an ascending tuple of lines, an even number of them at each knot."""
    check_graph(graph)
    if not are_ascending(value, len(graph.lines)):
        return False
    met = [knot for line in value for knot in graph.lines[line]]
    return all([met.count(knot) & 1 == 0 for knot in range(graph.many)])


def even_count(graph):
    """How many even lots there are."""
    check_graph(graph)
    return 1 << (len(graph.lines) - len(tree_of(graph)))


def two_or_cut(graph, one, other):
    """("ways", way, way) without common lines and inner knots, or ("cut", line, knot, lot)."""
    check_two_knots(graph, one, other)
    found = two_ways(graph, one, other)
    return ("ways", *found) if found else first_cut(graph, one, other)


def are_two_ways(graph, one, other, way, more):
    """Whether these are two ways without common lines and inner knots."""
    if not is_walk(graph, one, other, way) or not is_walk(graph, one, other, more):
        return False
    inner = knots_along(graph, one, way)[1:-1]
    return not any([line in way for line in more]) and not any([at in inner for at in knots_along(graph, one, more)])


def is_cut(graph, one, other, line, knot, lot):
    """Whether a line, a knot or neither, and a lot of knots are a cut that parts the two knots."""
    if not (line is None or knot is None and is_index(line, len(graph.lines))):
        return False
    if not (knot is None or is_index(knot, graph.many) and knot not in (one, other)):
        return False
    if not is_part(graph, one, other, lot) or knot in lot:
        return False
    return all([at == line or knot in graph.lines[at] for at in leaving(graph, lot)])


def is_two_or_cut(graph, one, other, value):
    """Whether the value is what two_or_cut may return."""
    check_two_knots(graph, one, other)
    if has_form(value, "ways", 3):
        return are_two_ways(graph, one, other, value[1], value[2])
    return has_form(value, "cut", 4) and is_cut(graph, one, other, value[1], value[2], value[3])
