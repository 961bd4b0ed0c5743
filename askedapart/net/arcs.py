"""Arcs over a row: which lines cross, moves of lines over knots, and odd tables, which bar each drawing.

Sums go on inside as numbers, as in askedapart.base.bits: digit k stands for the pair of lines with the index k.
"""

from askedapart.base.bits import put_apart, sum_or_test_masks, places_of
from askedapart.base.checks import are_pairs_below, are_rising_pairs, is_order, is_told
from askedapart.base.lots import odd_times, pairs_of
from askedapart.errors import InvalidOperation
from askedapart.net.bars import bar_pairs, check_bar
from askedapart.net.graphs import check_graph
from askedapart.net.walks import all_lines, with_knot


def are_apart(graph, line, other):
    """Whether two lines have no common knot."""
    return not any([knot in graph.lines[other] for knot in graph.lines[line]])


def apart_pairs(graph):
    """The ascending list of all pairs of lines that are apart."""
    return [(line, other) for line, other in pairs_of(all_lines(graph)) if are_apart(graph, line, other)]


def all_moves(graph):
    """The ascending list of all moves."""
    return [(line, knot) for line in all_lines(graph) for knot in range(graph.many) if knot not in graph.lines[line]]


def pairs_by(graph, move):
    """The list of the pairs that a move turns."""
    line, knot = move
    others = [other for other in with_knot(graph, knot) if are_apart(graph, line, other)]
    return [tuple(sorted([line, other])) for other in others]


def told_pairs(graph, value):
    """Whether the value is pairs of a graph that is known to be one."""
    return are_rising_pairs(value, len(graph.lines)) and all([are_apart(graph, e, f) for e, f in value])


def told_moves(graph, value):
    """Whether the value is moves of a graph that is known to be one."""
    if not are_pairs_below(value, len(graph.lines), graph.many):
        return False
    return all([knot not in graph.lines[line] for line, knot in value])


def are_pairs(graph, value):
    """Whether the value is an ascending tuple of pairs of lines that are apart."""
    check_graph(graph)
    return told_pairs(graph, value)


def are_moves(graph, value):
    """Whether the value is an ascending tuple of moves."""
    check_graph(graph)
    return told_moves(graph, value)


def check_order(graph, value):
    """InvalidOperation unless the value is a tuple of all knots, each once."""
    if not is_order(value, graph.many):
        raise InvalidOperation("an order is a tuple of all knots, each once")


def check_ordered(graph, order):
    """The errors of a graph with an order of it."""
    check_graph(graph)
    check_order(graph, order)


def do_cross(arc, other):
    """Whether two arcs cross, told by the ascending places of their ends, of which no two are one."""
    return (other[0] < arc[0] < other[1]) != (other[0] < arc[1] < other[1])


def crossing(graph, order):
    """The ascending tuple of the pairs that cross."""
    arcs = [sorted([order.index(low), order.index(high)]) for low, high in graph.lines]
    return tuple([(e, f) for e, f in apart_pairs(graph) if do_cross(arcs[e], arcs[f])])


def behind_moves(graph, pairs, moves):
    """The ascending tuple of the pairs behind the moves."""
    return odd_times([*pairs, *[pair for move in moves for pair in pairs_by(graph, move)]])


def crossing_pairs(graph, order):
    """The ascending tuple of the pairs of lines that cross as arcs over a row."""
    check_ordered(graph, order)
    return crossing(graph, order)


def turned_pairs(graph, pairs, moves):
    """The pairs behind the moves."""
    if not are_pairs(graph, pairs):
        raise InvalidOperation("an ascending tuple of pairs of lines that are apart is asked for")
    if not told_moves(graph, moves):
        raise InvalidOperation("an ascending tuple of moves is asked for")
    return behind_moves(graph, pairs, moves)


def moves_by_swap(graph, knot, other):
    """The moves by which the crossing pairs turn if two neighbours of an order change places."""
    return [(line, other) for line in with_knot(graph, knot) if other not in graph.lines[line]]


def moves_between(graph, order, other):
    """Moves that lead from the crossing pairs of the one order to those of the other one."""
    check_ordered(graph, order)
    check_order(graph, other)
    row = list(order)
    moves = []
    for place, knot in enumerate(other):
        # The knot is led down to its place, neighbour by neighbour.
        for at in range(row.index(knot), place, -1):
            moves.extend(moves_by_swap(graph, knot, row[at - 1]))
        row.remove(knot)
        row.insert(place, knot)
    return odd_times(moves)


def is_moves_between(graph, order, other, value):
    """Whether the value is what moves_between may return."""
    check_ordered(graph, order)
    check_order(graph, other)
    return told_moves(graph, value) and behind_moves(graph, crossing(graph, order), value) == crossing(graph, other)


def move_masks(graph):
    """For each move the mask of the pairs that it turns, and the list of all pairs that are apart."""
    pairs = apart_pairs(graph)
    places = {pair: 1 << at for at, pair in enumerate(pairs)}
    return [sum([places[pair] for pair in pairs_by(graph, move)]) for move in all_moves(graph)], pairs


def mask_among(pairs, some):
    """The mask of some of the pairs."""
    return sum([1 << at for at, pair in enumerate(pairs) if pair in some])


def moves_or_table(graph, order):
    """("moves", moves) that lead from the crossing pairs to none, or ("table", pairs) with an odd table."""
    check_ordered(graph, order)
    masks, pairs = move_masks(graph)
    word, found = sum_or_test_masks(masks, mask_among(pairs, crossing(graph, order)))
    if word == "sum":
        moves = all_moves(graph)
        return ("moves", tuple([moves[at] for at in places_of(found)]))
    return ("table", tuple([pairs[at] for at in places_of(found)]))


def is_moves_or_table(graph, order, value):
    """Whether the value is what moves_or_table may return."""
    check_ordered(graph, order)
    if is_told(value, "moves"):
        return told_moves(graph, value[1]) and behind_moves(graph, crossing(graph, order), value[1]) == ()
    return is_told(value, "table") and is_odd_table(graph, value[1])


def is_odd_table(graph, value):
    """Whether the value is pairs, an even number of them turned by each move, and an odd number of them crossing."""
    if not are_pairs(graph, value):
        return False
    # That an odd number cross is so for each order, or for none.
    crossed = crossing(graph, list(range(graph.many)))
    if len([pair for pair in value if pair in crossed]) & 1 == 0:
        return False
    counts = [len([pair for pair in pairs_by(graph, move) if pair in value]) for move in all_moves(graph)]
    return all([count & 1 == 0 for count in counts])


def table_of_bar(graph, bar):
    """The odd table of a bar: pairs of lines of two of its ways that have no common branch."""
    check_bar(graph, bar)
    ways = list(zip(bar_pairs(graph, bar), bar[-1]))
    found = [(line, other) for ends, way in ways for others, more in ways if not any([knot in others for knot in ends])
             for line in way for other in more]
    return tuple(sorted([(line, other) for line, other in found if line < other]))


def move_count(graph):
    """How many tuples of moves lead from an order, whichever, to no pair."""
    check_graph(graph)
    masks, pairs = move_masks(graph)
    word, _ = sum_or_test_masks(masks, mask_among(pairs, crossing(graph, list(range(graph.many)))))
    kept, _ = put_apart(masks)
    return 1 << (len(masks) - len(kept)) if word == "sum" else 0
