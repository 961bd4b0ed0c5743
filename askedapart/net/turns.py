"""Turnings of graphs: the rounds that one walks, handles, lines put in, and borders of lots of rounds."""

from askedapart.base.bits import solved
from askedapart.base.checks import are_ascending, has_size, is_bit, is_index
from askedapart.errors import InvalidLot, InvalidNumber, InvalidOperation, InvalidTurning, TooMany
from askedapart.net.graphs import MOST_LINES, Graph, check_graph, check_line, pieces_of
from askedapart.net.walks import with_knot


def is_turn(value, lines):
    """Whether the value is a tuple of these lines, each once."""
    if not has_size(value, len(lines), len(lines)) or not all([is_index(line, MOST_LINES) for line in value]):
        return False
    return sorted(value) == list(lines)


def is_turning(graph, value):
    """Whether the value is a turning of the graph: for each knot the tuple of its lines, each once."""
    check_graph(graph)
    if not has_size(value, graph.many, graph.many):
        return False
    return all([is_turn(turn, with_knot(graph, knot)) for knot, turn in enumerate(value)])


def check_turning(graph, value):
    """The errors of a graph with a turning of it."""
    if not is_turning(graph, value):
        raise InvalidTurning("a turning tells for each knot its lines, each once")


def steps_behind(graph, turns):
    """The dict from each step along the lines in the turns to the step behind it."""
    found = {}
    for knot, turn in enumerate(turns):
        for at, line in enumerate(turn):
            follower = turn[(at + 1) % len(turn)]
            coming = (line, int(graph.lines[line][0] == knot))
            found[coming] = (follower, int(graph.lines[follower][1] == knot))
    return found


def rounds_along(graph, turns):
    """The ascending list of the rounds with steps along the lines in the turns, which may leave lines out."""
    following = steps_behind(graph, turns)
    walked = {}
    found = []
    for first in sorted(list(following)):
        if first in walked:
            continue
        steps = [first]
        while following[steps[-1]] != first:
            steps.append(following[steps[-1]])
        for step in steps:
            walked[step] = True
        found.append(tuple(steps))
    return found


def behind(graph, turning, line, direction):
    """The step behind a step."""
    check_turning(graph, turning)
    check_line(graph, line)
    if not is_bit(direction):
        raise InvalidNumber(direction)
    return steps_behind(graph, turning)[(line, direction)]


def rounds(graph, turning):
    """The ascending tuple of all rounds with steps."""
    check_turning(graph, turning)
    return tuple(rounds_along(graph, turning))


def round_count(graph, turning):
    """The number of all rounds, those of knots without lines among them."""
    return len(rounds(graph, turning)) + len([turn for turn in turning if turn == ()])


def handles(graph, turning):
    """The tuple of the handles of all pieces."""
    starts = [graph.lines[steps[0][0]][0] for steps in rounds(graph, turning)]
    starts = starts + [knot for knot, turn in enumerate(turning) if turn == ()]
    lows = [low for low, _ in graph.lines]
    return tuple([handles_of(lot, lows, starts) for lot in pieces_of(graph)])


def handles_of(lot, lows, starts):
    """The handles of a piece, by a knot of each line and one of each round."""
    lines = len([knot for knot in lows if knot in lot])
    walks = len([knot for knot in starts if knot in lot])
    return (2 - len(lot) + lines - walks) // 2


def is_drawn(graph, turning):
    """Whether the turning draws the graph: no piece has handles."""
    return not any(handles(graph, turning))


def is_spot(graph, value):
    """Whether the value is a spot: a knot, and the index of a line in its turn, or the number of its lines."""
    if not has_size(value, 2, 2) or not is_index(value[0], graph.many):
        return False
    return is_index(value[1], len(with_knot(graph, value[0])) + 1)


def with_line(graph, turning, spot, other):
    """The graph with a last line put in between two spots of unlike knots, and its turning."""
    check_turning(graph, turning)
    if not is_spot(graph, spot):
        raise InvalidOperation("no spot")
    if not is_spot(graph, other) or other[0] == spot[0]:
        raise InvalidOperation("no spot of another knot")
    if len(graph.lines) >= MOST_LINES:
        raise TooMany(MOST_LINES)
    turns = list(turning)
    for knot, at in (spot, other):
        turns[knot] = turns[knot][:at] + (len(graph.lines),) + turns[knot][at:]
    ends = tuple(sorted([spot[0], other[0]]))
    return Graph(graph.many, (*graph.lines, ends)), tuple(turns)


def sides(graph, turning):
    """For each line the pair of the rounds of its step onward and of its step back."""
    at_step = {step: at for at, steps in enumerate(rounds(graph, turning)) for step in steps}
    return tuple([(at_step[(line, 0)], at_step[(line, 1)]) for line in range(len(graph.lines))])


def border_of(pairs, lot):
    """The ascending tuple of the lines with just one of their rounds, told in pairs, in the lot."""
    return tuple([line for line, (one, other) in enumerate(pairs) if (one in lot) != (other in lot)])


def border(graph, turning, lot):
    """The ascending tuple of the lines with just one of their steps in the rounds of the lot."""
    pairs = sides(graph, turning)
    if not are_ascending(lot, len(rounds(graph, turning))):
        raise InvalidLot("a lot is an ascending tuple of indices of rounds")
    return border_of(pairs, lot)


def check_lines(graph, turning, lines):
    """The errors of a turning with an ascending tuple of lines."""
    check_turning(graph, turning)
    if not are_ascending(lines, len(graph.lines)):
        raise InvalidOperation("an ascending tuple of lines is asked for")


def bordered(graph, turning, lines):
    """A lot of rounds whose border are the lines, or None if there is none."""
    check_lines(graph, turning, lines)
    if graph.lines == ():
        return ()
    # Each line wants of the bits of its two rounds that they sum to whether it is one of the border.
    many = range(len(rounds(graph, turning)))
    rows = tuple([tuple([int(at == one) ^ int(at == other) for at in many]) for one, other in sides(graph, turning)])
    goal = tuple([int(line in lines) for line in range(len(graph.lines))])
    word, found = solved(rows, goal)
    return tuple([at for at in many if found[at]]) if word == "bits" else None


def is_bordered(graph, turning, lines, value):
    """Whether the value is what bordered may return."""
    check_lines(graph, turning, lines)
    if value is None:
        return bordered(graph, turning, lines) is None
    return are_ascending(value, len(rounds(graph, turning))) and border(graph, turning, value) == lines
