"""Graphs in the plane: blocks, circles with their fragments, and a turning that draws a graph, or a bar."""

from askedapart.base.checks import has_size, is_bit_for_each, is_index, is_told
from askedapart.errors import InvalidOperation
from askedapart.net.bars import is_bar, some_bar
from askedapart.net.draw import blocks_among, fragments_beside, turning_of
from askedapart.net.graphs import check_graph
from askedapart.net.turns import is_drawn, is_turning
from askedapart.net.walks import all_lines, knots_along


def blocks(graph):
    """The ascending tuple of the blocks, ascending tuples of lines."""
    check_graph(graph)
    return tuple(blocks_among(graph, all_lines(graph)))


def knots_round(graph, lines):
    """The knots that are met along the lines, the first one at the end once more, or () if these do not go round."""
    for start in graph.lines[lines[0]]:
        knots = knots_along(graph, start, lines)
        if knots != () and knots[-1] == start and len(set(knots)) == len(lines):
            return knots
    return ()


def is_circle(graph, value):
    """Whether the value is a circle, told from its least line on towards the lesser one of its neighbours."""
    check_graph(graph)
    if not has_size(value, 2, graph.many) or not all([is_index(line, len(graph.lines)) for line in value]):
        return False
    if len(set(value)) < len(value) or value[0] != min(value) or (len(value) > 2 and value[1] > value[-1]):
        return False
    return knots_round(graph, value) != ()


def check_circle(graph, circle):
    """The errors of a graph with a circle of it."""
    if not is_circle(graph, circle):
        raise InvalidOperation("no circle of the graph")


def fragments(graph, circle):
    """The ascending tuple of the fragments of the circle, pairs (feet, lines)."""
    check_circle(graph, circle)
    further = [line for line in all_lines(graph) if line not in circle]
    found = fragments_beside(graph, further, knots_round(graph, circle))
    # What has no foot lies in another piece.
    return tuple([(feet, lines) for feet, lines in found if feet])


def do_alternate(places, others):
    """Whether some a, b of the places and c, d of the others come in the sequence a, c, b, d."""
    for low in places:
        for high in places:
            between = [other for other in others if low < other < high]
            beyond = [other for other in others if low > other or other > high]
            if between and beyond:
                return True
    return False


def conflicts(graph, circle):
    """The ascending tuple of the pairs of indices of fragments that conflict."""
    found = fragments(graph, circle)
    knots = knots_round(graph, circle)
    places = [[knots.index(foot) for foot in feet] for feet, _ in found]
    pairs = [(i, j) for j in range(len(found)) for i in range(j)]
    return tuple(sorted([(i, j) for i, j in pairs if do_conflict(places[i], places[j])]))


def do_conflict(places, others):
    """Whether two fragments conflict, by the places of their feet on the circle."""
    return len([place for place in places if place in others]) >= 3 or do_alternate(places, others)


def rows_to(many, pairs):
    """For each thing below many a shortest row of tied things up to it, from the least one that it hangs with on."""
    tied = [[] for _ in range(many)]
    for i, j in pairs:
        tied[i].append(j)
        tied[j].append(i)
    rows = {}
    for start in range(many):
        front = [] if start in rows else [start]
        rows.setdefault(start, (start,))
        while front:
            steps = [(at, other) for at in front for other in tied[at]]
            front = []
            for at, other in steps:
                if other not in rows:
                    rows[other] = rows[at] + (other,)
                    front.append(other)
    return rows


def odd_row(one, other):
    """The row that goes round by two rows with one beginning, and with ends that are tied."""
    shared = len([at for at, thing in enumerate(one) if one[:at + 1] == other[:at + 1]])
    return one[shared - 1:] + tuple(reversed(other[shared:]))


def sides_or_odd(graph, circle):
    """("sides", bits) with no conflict on one side, or ("odd", row) of fragments that conflict all round."""
    pairs = conflicts(graph, circle)
    rows = rows_to(len(fragments(graph, circle)), pairs)
    for i, j in pairs:
        if len(rows[i]) & 1 == len(rows[j]) & 1:
            return ("odd", odd_row(rows[i], rows[j]))
    return ("sides", tuple([len(rows[at]) & 1 for at in range(len(rows))]))


def is_odd_row(many, pairs, value):
    """Whether the value is an odd number of unlike things in a row, each in conflict with the next one, all round."""
    if not has_size(value, 1, many) or not all([is_index(at, many) for at in value]):
        return False
    if len(value) & 1 == 0 or len(set(value)) < len(value):
        return False
    return all([tuple(sorted([value[k - 1], value[k]])) in pairs for k in range(len(value))])


def is_sides_or_odd(graph, circle, value):
    """Whether the value is what sides_or_odd may return."""
    pairs = conflicts(graph, circle)
    many = len(fragments(graph, circle))
    if is_told(value, "sides"):
        return is_bit_for_each(value[1], many) and all([value[1][i] != value[1][j] for i, j in pairs])
    return is_told(value, "odd") and is_odd_row(many, pairs, value[1])


def turning_or_bar(graph):
    """("drawn", turning) with a turning that draws the graph, or a bar."""
    check_graph(graph)
    turning = turning_of(graph, all_lines(graph))
    return some_bar(graph) if turning is None else ("drawn", turning)


def is_turning_or_bar(graph, value):
    """Whether the value is what turning_or_bar may return."""
    check_graph(graph)
    if is_told(value, "drawn"):
        return is_turning(graph, value[1]) and is_drawn(graph, value[1])
    return is_bar(graph, value)


def is_planar(graph):
    """Whether some turning draws the graph."""
    check_graph(graph)
    return turning_of(graph, all_lines(graph)) is not None
