"""Bars, which show that no turning draws a graph: critical lots of lines, and clumps of knots."""

from askedapart.base.checks import are_ascending, has_form, has_size
from askedapart.base.lots import pairs_of
from askedapart.errors import InvalidOperation, Refused
from askedapart.net.draw import critical_among
from askedapart.net.graphs import check_graph, is_walk
from askedapart.net.walks import all_lines, ends_of, far_end, knots_along, lines_within, merged


def pairs_between(ones, others):
    """The ascending list of the pairs of one of the ones and one of the others."""
    return [(one, other) for one in ones for other in others]


def bar_pairs(graph, value):
    """The list of the pairs of branches between which a value of the form of a bar has its ways; [] for others."""
    if has_form(value, "five", 3) and are_knots(graph, value[1], 5):
        return pairs_of(value[1])
    if has_form(value, "six", 4) and are_knots(graph, value[1], 3) and are_knots(graph, value[2], 3):
        return pairs_between(value[1], value[2]) if value[1][0] < value[2][0] else []
    return []


def are_knots(graph, value, size):
    """Whether the value is an ascending tuple of so many knots of the graph."""
    return has_size(value, size, size) and are_ascending(value, graph.many)


def is_bar(graph, value):
    """Whether the value is a bar of the graph."""
    check_graph(graph)
    pairs = bar_pairs(graph, value)
    if pairs == [] or not has_size(value[-1], len(pairs), len(pairs)):
        return False
    if not all([is_walk(graph, one, other, way) for (one, other), way in zip(pairs, value[-1])]):
        return False
    branches = [knot for lot in value[1:-1] for knot in lot]
    met = branches + [knot for knots in inner_knots(graph, pairs, value[-1]) for knot in knots]
    return len(set(met)) == len(met)


def inner_knots(graph, pairs, ways):
    """For each way between a pair of knots its inner knots."""
    return [knots_along(graph, one, way)[1:-1] for (one, _), way in zip(pairs, ways)]


def check_bar(graph, value):
    """The errors of a graph with a bar of it."""
    if not is_bar(graph, value):
        raise InvalidOperation("no bar of the graph")


def bar_lines(graph, bar):
    """The ascending tuple of all lines of a bar."""
    check_bar(graph, bar)
    return tuple(sorted([line for way in bar[-1] for line in way]))


def check_lot_of_lines(graph, lines):
    """The errors of a graph with an ascending tuple of its lines, at least one."""
    check_graph(graph)
    if not are_ascending(lines, len(graph.lines)) or lines == ():
        raise InvalidOperation("an ascending tuple of lines, at least one, is asked for")


def lines_by_knot(graph, lines):
    """For each knot the list of those of the lines that are there."""
    return [[line for line in lines if knot in graph.lines[line]] for knot in range(graph.many)]


def way_on(graph, at_knots, start, line):
    """The way that goes on from the start along a line as long as just one further line is at its end; this end."""
    way = [line]
    knot = far_end(graph, line, start)
    while len(at_knots[knot]) == 2:
        one, other = at_knots[knot]
        way.append(other if one == way[-1] else one)
        knot = far_end(graph, way[-1], knot)
    return tuple(way), knot


def bar_of(graph, lines):
    """The bar with just these lines, or None if there is none."""
    at_knots = lines_by_knot(graph, lines)
    branches = [knot for knot in range(graph.many) if len(at_knots[knot]) > 2]
    ways = {}
    for knot in branches:
        for line in at_knots[knot]:
            way, end = way_on(graph, at_knots, knot, line)
            ways[(knot, end)] = way
    value = told_bar(branches, ways)
    # What is no bar in itself, or leaves lines over, was none.
    return value if is_bar(graph, value) and bar_lines(graph, value) == tuple(lines) else None


def told_bar(branches, ways):
    """The value of the form of a bar, told by its branches and the dict of their ways; None for other branches."""
    if len(branches) == 5:
        return ("five", tuple(branches), tuple([ways.get(pair) for pair in pairs_of(branches)]))
    if len(branches) == 6:
        others = [knot for knot in branches if (branches[0], knot) in ways]
        ones = [knot for knot in branches if knot not in others]
        found = tuple([ways.get(pair) for pair in pairs_between(ones, others)])
        return ("six", tuple(ones), tuple(others), found)
    return None


def is_critical(graph, lines):
    """Whether a lot of lines is critical, which is so if it is that of a bar."""
    check_lot_of_lines(graph, lines)
    return bar_of(graph, lines) is not None


def critical_lines(graph, lines):
    """A critical lot of some of the lines, or None if some turning draws the graph of these alone."""
    check_lot_of_lines(graph, lines)
    return critical_among(graph, lines)


def bar_by_lines(graph, lines):
    """The bar with just these lines."""
    check_lot_of_lines(graph, lines)
    found = bar_of(graph, lines)
    if found is None:
        raise Refused(("spare",))
    return found


def some_bar(graph):
    """A bar of the graph, or None if some turning draws it."""
    found = critical_among(graph, all_lines(graph))
    return None if found is None else bar_of(graph, found)


def sides_of_clumps(value):
    """The pair of tuples of clumps of a value of the form of clumps, the second one () for five; () for others."""
    if has_form(value, "five", 2) and has_size(value[1], 5, 5):
        return value[1], ()
    if has_form(value, "six", 3) and has_size(value[1], 3, 3) and has_size(value[2], 3, 3):
        return value[1], value[2]
    return ()


def clump_pairs(ones, others):
    """The list of the pairs of clumps that are to be joined by a line."""
    return pairs_between(ones, others) if others else pairs_of(ones)


def is_clump(graph, value):
    """Whether the value is an ascending tuple of knots, at least one, that hang together by lines between them."""
    if not are_ascending(value, graph.many) or value == ():
        return False
    labels = merged(graph.many, ends_of(graph, lines_within(graph, value)))
    return all([labels[knot] == value[0] for knot in value])


def lines_between(graph, one, other):
    """The list of the lines that join two clumps."""
    return [line for line, (low, high) in enumerate(graph.lines)
            if (low in one and high in other) or (low in other and high in one)]


def are_clumps(graph, value):
    """Whether the value are five clumps behind "five", or three and three behind "six", joined as told."""
    check_graph(graph)
    both = sides_of_clumps(value)
    if both == () or not all([is_clump(graph, clump) for side in both for clump in side]):
        return False
    met = [knot for side in both for clump in side for knot in clump]
    if len(set(met)) < len(met) or both != sorted_sides(both):
        return False
    return all([lines_between(graph, one, other) != [] for one, other in clump_pairs(both[0], both[1])])


def sorted_sides(both):
    """Both sides with their clumps ascending, and the side with the least clump ahead; an empty one stays behind."""
    ones, others = tuple(sorted(both[0])), tuple(sorted(both[1]))
    return (others, ones) if others and others < ones else (ones, others)


def told_clumps(both):
    """Clumps of two sides, the second one empty for five, told in their sequence."""
    ones, others = sorted_sides(both)
    return ("six", ones, others) if others else ("five", ones)


def clumps_of(graph, bar):
    """Clumps, each with one branch of the bar, and the inner knots of the ways that begin there."""
    check_bar(graph, bar)
    pairs = bar_pairs(graph, bar)
    branches = bar[1:-1] if bar[0] == "six" else (bar[1], ())
    found = {branch: [branch] for side in branches for branch in side}
    for (one, _), knots in zip(pairs, inner_knots(graph, pairs, bar[-1])):
        found[one].extend(knots)
    return told_clumps([[tuple(sorted(found[branch])) for branch in side] for side in branches])


def check_clumps(graph, value):
    """The errors of a graph with clumps of it."""
    if not are_clumps(graph, value):
        raise InvalidOperation("no clumps of the graph")


def bar_by_clumps(graph, clumps):
    """A bar all of whose knots are in the clumps."""
    check_clumps(graph, clumps)
    met = [knot for side in sides_of_clumps(clumps) for clump in side for knot in clump]
    return bar_of(graph, critical_among(graph, lines_within(graph, met)))


def grown(graph, clumps):
    """Clumps, each with just one of these, together with all knots of their piece."""
    check_clumps(graph, clumps)
    both = sides_of_clumps(clumps)
    owner = {knot: clump[0] for side in both for clump in side for knot in clump}
    # Each time that all lines are gone through, one knot at least is taken in, till none is left.
    for low, high in list(graph.lines) * graph.many:
        if low in owner:
            owner.setdefault(high, owner[low])
        elif high in owner:
            owner[low] = owner[high]
    return told_clumps([[owned_by(owner, clump[0]) for clump in side] for side in both])


def owned_by(owner, least):
    """The ascending tuple of the knots that the dict leads to this one."""
    return tuple(sorted([knot for knot, led in owner.items() if led == least]))
