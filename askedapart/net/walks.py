"""Knots that hang together, ways along lines, forests and cuts, for graphs that are known to be some."""


def all_lines(graph):
    """The list of all lines of the graph."""
    return list(range(len(graph.lines)))


def with_knot(graph, knot):
    """The ascending tuple of the lines at the knot, which is one of the graph."""
    return tuple([line for line, ends in enumerate(graph.lines) if knot in ends])


def joined(labels, one, other):
    """The labels, with those of both things and of all that hang together with them put to the least."""
    low, high = sorted([labels[one], labels[other]])
    return [low if label == high else label for label in labels]


def merged(many, pairs):
    """For each thing below many the least one that it hangs together with, by the pairs that are tied."""
    labels = list(range(many))
    for one, other in pairs:
        labels = joined(labels, one, other)
    return labels


def things_by(labels):
    """The ascending tuple of the lots of things with one label."""
    return tuple([tuple([at for at, label in enumerate(labels) if label == least]) for least in sorted(set(labels))])


def ends_of(graph, lines):
    """The pairs of knots of these lines."""
    return [graph.lines[line] for line in lines]


def lines_within(graph, knots):
    """The list of the lines between two of the knots."""
    return [line for line, (low, high) in enumerate(graph.lines) if low in knots and high in knots]


def knots_along(graph, start, lines):
    """The knots that are met along the lines from the start on, or () if a line does not go on there."""
    knots = [start]
    for line in lines:
        if knots[-1] not in graph.lines[line]:
            return ()
        knots.append(far_end(graph, line, knots[-1]))
    return tuple(knots)


def far_end(graph, line, knot):
    """The knot at the other end of a line from this knot of it."""
    low, high = graph.lines[line]
    return high if knot == low else low


def way_along(graph, one, other, lines):
    """A shortest way of some of these lines from the one knot to the other one, or () if there is none."""
    came = {one: None}
    front = [one]
    while front and other not in came:
        steps = [(line, knot) for knot in front for line in lines if knot in graph.lines[line]]
        front = []
        for line, knot in steps:
            far = far_end(graph, line, knot)
            if far not in came:
                came[far] = line
                front.append(far)
    way = []
    knot = other
    while came.get(knot) is not None:
        way.append(came[knot])
        knot = far_end(graph, came[knot], knot)
    return tuple(reversed(way))


def leaving(graph, lot):
    """The lines between a knot of the lot and one beyond."""
    return [line for line, ends in enumerate(graph.lines) if (ends[0] in lot) != (ends[1] in lot)]


def forest_among(graph, lines):
    """The lines of a tree of the graph of these lines alone, in their sequence."""
    labels = list(range(graph.many))
    found = []
    for line in lines:
        low, high = graph.lines[line]
        if labels[low] != labels[high]:
            labels = joined(labels, low, high)
            found.append(line)
    return tuple(found)


def walked_beside(graph, one, other, way):
    """The lines of a walk between the knots beside the way, which may go back along it, or [] if there is none.

    A walk that comes to an inner knot of the way goes back along the way for a line at least, till it leaves it.
    A place is a pair (knot, held): held is 1 at inner knots of the way where the walk is bound to go back.
    """
    back = dict(zip(knots_along(graph, one, way)[1:-1], way))
    came = {(one, 0): None}
    front = [(one, 0)]
    while front and (other, 0) not in came:
        steps = [(place, line, far) for place in front for line, far in places_behind(graph, way, back, place)]
        front = []
        for place, line, far in steps:
            if far not in came:
                came[far] = (line, place)
                front.append(far)
    walked = []
    place = (other, 0)
    while came.get(place) is not None:
        line, place = came[place]
        walked.append(line)
    return walked


def places_behind(graph, way, back, place):
    """Pairs (line, place) of where a walk beside the way may go on; the line is None where it stays at its knot."""
    knot, held = place
    if held:
        return [(back[knot], (far_end(graph, back[knot], knot), 0))]
    ahead = [(line, far_end(graph, line, knot)) for line in with_knot(graph, knot) if line not in way]
    found = [(line, (far, int(far in back))) for line, far in ahead]
    return found + [(None, (knot, 1))] if knot in back else found


def two_ways(graph, one, other):
    """A pair of ways without common lines and inner knots, or () if there is none."""
    way = way_along(graph, one, other, all_lines(graph))
    walked = walked_beside(graph, one, other, way) if way else []
    if walked == []:
        return ()
    # Where the walk went back along the way neither is left, so that both change over to one another.
    left = [line for line in all_lines(graph) if (line in way) != (line in walked)]
    first = way_along(graph, one, other, left)
    return first, way_along(graph, one, other, [line for line in left if line not in first])


def part_without(graph, one, line, knot):
    """The ascending lot of the knots that the one knot hangs together with if this line and knot are left out."""
    left = [ends for at, ends in enumerate(graph.lines) if at != line and knot not in ends]
    labels = merged(graph.many, left)
    return tuple([at for at, label in enumerate(labels) if label == labels[one]])


def first_cut(graph, one, other):
    """A cut that parts the two knots; there is one if there are no two ways."""
    lines = [(line, None) for line in all_lines(graph)]
    knots = [(None, knot) for knot in range(graph.many) if knot not in (one, other)]
    for line, knot in [(None, None)] + lines + knots:
        lot = part_without(graph, one, line, knot)
        if other not in lot:
            return ("cut", line, knot, lot)
    return None
