"""Drawings of some lines of a graph, put together way by way, for graphs that are known to be some."""

from askedapart.net.turns import rounds_along
from askedapart.net.walks import forest_among, merged, way_along


def blocks_among(graph, lines):
    """The ascending list of the blocks of the graph of these ascending lines alone."""
    tree = forest_among(graph, lines)
    ties = []
    for line in lines:
        if line not in tree:
            low, high = graph.lines[line]
            ties.extend([(line, other) for other in way_along(graph, low, high, tree)])
    # The rings of one tree are enough: what lies in a common circle hangs together by rings.
    labels = merged(len(graph.lines), ties)
    return [tuple([at for at in lines if labels[at] == least]) for least in lines if labels[least] == least]


def feet_of(graph, lines, knots):
    """The ascending tuple of those of the knots at which some of the lines are."""
    return tuple(sorted({knot for line in lines for knot in graph.lines[line] if knot in knots}))


def fragments_beside(graph, lines, knots):
    """The ascending list of the fragments (feet, lines) that these lines make beside the knots."""
    ends = [graph.lines[line] for line in lines]
    labels = merged(graph.many, [(low, high) for low, high in ends if low not in knots and high not in knots])
    found = {}
    for line, (low, high) in zip(lines, ends):
        inner = [labels[knot] for knot in (low, high) if knot not in knots]
        # A line between two of the knots is a fragment of its own.
        key = inner[0] if inner else graph.many + line
        found[key] = found.get(key, ()) + (line,)
    return sorted([(feet_of(graph, lot, knots), lot) for lot in list(found.values())])


def put_way(graph, turns, way, gaps):
    """Put the lines of a way into the turns: where gaps tells a line for a knot, ahead of this one."""
    for line in way:
        for knot in graph.lines[line]:
            at = turns[knot].index(gaps[knot]) if knot in gaps else len(turns[knot])
            turns[knot].insert(at, line)


def way_through(graph, feet, lines):
    """A way of a fragment from the first foot to the second one, without further feet."""
    further = feet[2:]
    free = [line for line in lines if not any([knot in further for knot in graph.lines[line]])]
    return way_along(graph, feet[0], feet[1], free)


def next_way(graph, turns, left):
    """A way of a fragment that fits fewest rounds, and the gaps of a round for it; None if one fits no round."""
    drawn = [knot for knot, turn in enumerate(turns) if turn]
    # For each round the line by which it leaves each of its knots.
    walked = [{graph.lines[line][direction]: line for line, direction in steps}
              for steps in rounds_along(graph, turns)]
    choices = []
    for feet, lines in fragments_beside(graph, left, drawn):
        fitting = [gaps for gaps in walked if all([foot in gaps for foot in feet])]
        if not fitting:
            return None
        choices.append((len(fitting), feet, lines, fitting[0]))
    _, feet, lines, chosen = min(choices, key=lambda choice: choice[0])
    return way_through(graph, feet, lines), chosen


def first_way(graph, block):
    """The lines of a circle of a block, told from its least line on, or the line alone if it has no further one."""
    low, high = graph.lines[block[0]]
    return (block[0], *way_along(graph, low, high, block[1:]))


def draw_block(graph, block):
    """Turns, a list for each knot, that draw a block, or None if there are none."""
    turns = [[] for _ in range(graph.many)]
    left = block
    found = (first_way(graph, block), {})
    while found is not None:
        way, gaps = found
        put_way(graph, turns, way, gaps)
        left = [line for line in left if line not in way]
        if not left:
            return turns
        found = next_way(graph, turns, left)
    return None


def turning_of(graph, lines):
    """A turning that draws the graph of these ascending lines alone, or None if there is none."""
    turns = [[] for _ in range(graph.many)]
    for block in blocks_among(graph, lines):
        found = draw_block(graph, block)
        if found is None:
            return None
        turns = [turn + more for turn, more in zip(turns, found)]
    return tuple([tuple(turn) for turn in turns])


def critical_among(graph, lines):
    """A critical lot of some of these ascending lines, or None if they can be drawn."""
    if turning_of(graph, lines) is not None:
        return None
    left = list(lines)
    for line in lines:
        less = [other for other in left if other != line]
        if turning_of(graph, less) is None:
            left = less
    return tuple(left)
