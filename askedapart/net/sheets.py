"""Sheets, the pairs of knots that lines join, and partings of them into plane sheets and fives.

Sheets come here of graphs that are known to be some.
"""

from askedapart.base.checks import are_ascending, are_rising_pairs, has_form, has_size, is_index
from askedapart.base.lots import pairs_of
from askedapart.net.draw import turning_of
from askedapart.net.graphs import MOST_LINES, Graph
from askedapart.net.turns import is_drawn, is_turning
from askedapart.net.walks import all_lines, far_end, merged


def sheet_of(lines):
    """The sheet of some lines, told by their knots."""
    return tuple(sorted(set(lines)))


def knots_in(sheet):
    """The ascending list of the knots of a sheet."""
    return sorted({knot for pair in sheet for knot in pair})


def is_five(sheet):
    """Whether a sheet has all ten pairs of five knots."""
    return len(sheet) == 10 and len(knots_in(sheet)) == 5


def turns_of(graph, turning):
    """The turns of the sheet that a graph has as its lines, by a turning of it."""
    turns = [(knot, tuple([far_end(graph, line, knot) for line in lines])) for knot, lines in enumerate(turning)]
    return tuple([turn for turn in turns if turn[1] != ()])


def parts_at(many, sheet, knots):
    """The two sheets of a split at the knots, or () if what is left without them is in one piece."""
    labels = merged(many, [(a, b) for a, b in sheet if a not in knots and b not in knots])
    inner = [(min([labels[knot] for knot in pair if knot not in knots]), pair) for pair in sheet if pair != knots]
    one = tuple([pair for label, pair in inner if label == inner[0][0]])
    other = tuple([pair for label, pair in inner if label != inner[0][0]])
    if other == ():
        return ()
    both = (knots,) if len(knots) == 2 else ()
    return tuple(sorted(one + both)), tuple(sorted(other + both))


def split_of(many, sheet):
    """Knots, and the two sheets of a split at as few as can be, or () if there is none at two or less."""
    knots = knots_in(sheet)
    for cut in [()] + [(knot,) for knot in knots] + pairs_of(knots):
        parts = parts_at(many, sheet, cut)
        if parts:
            return cut, *parts
    return ()


def parting_of(many, sheet):
    """The list of the steps of a parting of a sheet, or None if ways join three of its knots with three others."""
    graph = Graph(many, sheet)
    turning = turning_of(graph, all_lines(graph))
    if turning is not None:
        return [("drawn", sheet, turns_of(graph, turning))]
    if is_five(sheet):
        return [("five", sheet)]
    found = split_of(many, sheet)
    # A sheet that is neither plane nor a five, and cannot be split, has such ways.
    if found == ():
        return None
    cut, one, other = found
    steps, more = parting_of(many, one), parting_of(many, other)
    return None if steps is None or more is None else [*steps, *more, ("split", sheet, cut)]


def is_sheet(many, value):
    """Whether the value is a sheet; one of more pairs than a graph has lines can never be taken."""
    return are_rising_pairs(value, many) and len(value) <= MOST_LINES


def is_turn(many, value, knot):
    """Whether the value is a pair of the knot and of a tuple of knots."""
    if not has_size(value, 2, 2) or not is_index(value[0], many) or value[0] != knot:
        return False
    return has_size(value[1], 0, many) and all([is_index(far, many) for far in value[1]])


def do_draw(many, sheet, turns):
    """Whether the value is turns that draw a sheet."""
    knots = knots_in(sheet)
    if not has_size(turns, len(knots), len(knots)):
        return False
    if not all([is_turn(many, turn, knot) for turn, knot in zip(turns, knots)]):
        return False
    lines = {pair: line for line, pair in enumerate(sheet)}
    told = {knot: tuple([lines.get((min(knot, far), max(knot, far))) for far in fars]) for knot, fars in turns}
    turning = tuple([told.get(knot, ()) for knot in range(many)])
    graph = Graph(many, sheet)
    return is_turning(graph, turning) and is_drawn(graph, turning)


def is_split(many, sheet, knots, parts):
    """Whether a sheet splits into two parts at the value, none, one or two of its knots."""
    inside = knots_in(sheet)
    if not has_size(knots, 0, 2) or not are_ascending(knots, many) or not all([knot in inside for knot in knots]):
        return False
    one, other = parts
    if len(one) >= len(sheet) or len(other) >= len(sheet):
        return False
    others = knots_in(other)
    if not all([knot in knots for knot in knots_in(one) if knot in others]):
        return False
    if len(knots) == 2 and (knots not in one or knots not in other):
        return False
    return sorted([pair for pair in one + other if pair != knots]) == [pair for pair in sheet if pair != knots]


def does_tell(many, step, parts):
    """Whether a step tells a sheet, the parts being the sheets that a split takes."""
    if not has_size(step, 2, 3) or not is_sheet(many, step[1]):
        return False
    if has_form(step, "drawn", 3):
        return do_draw(many, step[1], step[2])
    if has_form(step, "five", 2):
        return is_five(step[1])
    return has_form(step, "split", 3) and len(parts) == 2 and is_split(many, step[1], step[2], parts)


def is_parting(many, sheet, value):
    """Whether the value is a parting of a sheet."""
    if not isinstance(value, tuple):
        return False
    left = []
    for step in value:
        if not does_tell(many, step, left[-2:]):
            return False
        if step[0] == "split":
            left = left[:-2]
        left.append(step[1])
    return left == [sheet]
