"""Graphs that several tests use, and what one would do with them by hand: own walks, rounds, sums, drawings."""

from itertools import combinations, permutations, product
from random import Random

from askedapart.net.graphs import Graph
from askedapart.net.turns import with_line
from samples import LONG, LONGEST, NOTHING, SQUARE, caught, deep


def complete(many):
    """The graph with a line between each two knots."""
    return Graph(many, tuple(combinations(range(many), 2)))


def ring(many):
    """The graph of one circle."""
    return Graph(many, tuple(sorted(tuple(sorted((k, (k + 1) % many))) for k in range(many))))


KITE = Graph(5, ((0, 1), (0, 2), (1, 2), (2, 3), (0, 1)))
FOUR = complete(4)
FLAT = ((0, 1, 2), (0, 4, 3), (1, 3, 5), (2, 5, 4))
CUBIC = Graph(6, tuple((a, b) for a in (0, 1, 2) for b in (3, 4, 5)))
CUBE_BAR = ("six", (0, 1, 2), (3, 4, 5), tuple((line,) for line in range(9)))
FIVE = complete(5)
FIVE_BAR = ("five", (0, 1, 2, 3, 4), tuple((line,) for line in range(10)))
PETERSEN = Graph(10, ((0, 1), (1, 2), (2, 3), (3, 4), (0, 4), (0, 5), (1, 6), (2, 7), (3, 8), (4, 9),
                      (5, 7), (7, 9), (6, 9), (6, 8), (5, 8)))
OCTAHEDRON = Graph(6, tuple(pair for pair in combinations(range(6), 2) if pair not in ((0, 5), (1, 4), (2, 3))))
TWO_RINGS = Graph(6, ((0, 1), (0, 2), (1, 2), (3, 4), (3, 5), (4, 5)))
BARE = Graph(1, ())
BARES = Graph(16, ())
# 16 knots, 24 lines: a grid of four by four; a ring with lines across it; many lines between two knots.
GRID = Graph(16, tuple((4 * r + c, 4 * r + c + 1) for r in range(4) for c in range(3))
             + tuple((4 * r + c, 4 * r + c + 4) for r in range(3) for c in range(4)))
LADDER = Graph(16, ring(16).lines + tuple((k, k + 8) for k in range(8)))
BUNDLE = Graph(16, ((3, 11),) * 24)
NAMED = (KITE, FOUR, CUBIC, FIVE, PETERSEN, OCTAHEDRON, TWO_RINGS, BARE, BARES, GRID, LADDER, BUNDLE, ring(16),
         Graph(2, ()), Graph(2, ((0, 1),)), Graph(2, ((0, 1),) * 3), Graph(3, ((0, 2),)), Graph(16, ((0, 15),)))

GRAPHLIKE = (*NOTHING, FOUR, (FOUR,), (4, FOUR.lines), FOUR.lines, FLAT, CUBE_BAR, FIVE_BAR,
             ("way", None), ("way", [0]), ("way", (True,)), ("way", (LONG,)), ("way", ()), ("way", "0"), ("way", {0: 0}),
             ("apart", None), ("apart", [0]), ("apart", (True,)), ("apart", ()), ("apart", (-1,)), ("apart", (LONGEST,)),
             ("ways", None), ("ways", (0,)), ("ways", None, None), ("ways", [0], (4,)), ("ways", (True,), (False,)),
             ("cut", None, None, None), ("cut", None, None, ()), ("cut", None, None, [0]), ("cut", True, None, (0,)),
             ("cut", [0], None, (0,)), ("cut", None, (0,), (0,)), ("cut", LONG, None, (0,)), ("cut", 0, 0), ("cut",),
             ("drawn", None), ("drawn", ()), ("drawn", [()]), ("drawn", ((),)), ("drawn", {0: ()}), ("drawn", ([],)),
             ("drawn", ((True,),)), ("drawn", deep(0, 7, tuple)), ("five", None), ("five", None, None), ("five", (), ()),
             ("five", [0, 1, 2, 3, 4], ()), ("five", (0, 1, 2, 3, 4), None), ("five", (0, 1, 2, 3, 4), (None,) * 10),
             ("five", (0, 1, 2, 3, True), ((0,),) * 10), ("five", ({}, [], None, 0, 1), ((),) * 10),
             ("six", None, None, None), ("six", (), (), ()), ("six", (0, 1, 2), (3, 4, 5), None), ("six", 0, 0),
             ("six", ([0], [1], [2]), ((3,), (4,), (5,))), ("six", (0, 1, 2), (3, 4, 5)), ("six", None, None),
             ("six", (None, None, None), (None, None, None), ((),) * 9), ("five", (0, 1, 2, 3, 4)), ("five", ((),) * 5),
             ("five", ((True,), (0,), (2,), (3,), (4,))), ("sides", None), ("sides", [0]), ("sides", (True,)),
             ("sides", (0,) * 17), ("odd", None), ("odd", ()), ("odd", [0]), ("odd", (True,)), ("odd", (0,)),
             ("odd", (LONG,)), ("odd", (-1, 0, 1)), (["drawn"], ()), ({}, ()), (FOUR, ()), (True, ()))
NO_GRAPH = tuple(value for value in GRAPHLIKE if not isinstance(value, Graph))
NO_INDEX = (None, True, False, -1, LONG, -LONG, LONGEST, "", "0", (), (0,), [], [0], {}, {0: 0}, SQUARE, FOUR)


def random_graph(chance, knots, lines):
    """A graph with whatever lines."""
    ends = [tuple(sorted(chance.sample(range(knots), 2))) for _ in range(lines if knots > 1 else 0)]
    return Graph(knots, tuple(ends))


def small_graphs(many, seed=1, knots=5, lines=7):
    """So many small graphs, the same ones in each run."""
    chance = Random(seed)
    return [random_graph(chance, chance.randint(1, knots), chance.randint(0, lines)) for _ in range(many)]


def random_turning(chance, graph):
    """A turning, each turn in whatever sequence."""
    return tuple(tuple(chance.sample(own_lines_at(graph, knot), len(own_lines_at(graph, knot))))
                 for knot in range(graph.many))


def renamed(chance, graph):
    """The graph with its knots and lines in another sequence."""
    order = chance.sample(range(graph.many), graph.many)
    ends = [tuple(sorted((order[a], order[b]))) for a, b in graph.lines]
    return Graph(graph.many, tuple(chance.sample(ends, len(ends))))


def without(graph, line):
    """The graph without a line."""
    return Graph(graph.many, graph.lines[:line] + graph.lines[line + 1:])


def longer(chance, graph):
    """The graph with an inner knot in one of its lines, which gives two lines."""
    line = chance.randrange(len(graph.lines))
    low, high = graph.lines[line]
    return Graph(graph.many + 1, without(graph, line).lines + ((low, graph.many), (high, graph.many)))


def glued(one, other, knots):
    """Both graphs, the first knots of the other one being these of the one."""
    names = list(knots) + list(range(one.many, one.many + other.many - len(knots)))
    moved = tuple(tuple(sorted((names[a], names[b]))) for a, b in other.lines)
    return Graph(one.many + other.many - len(knots), one.lines + moved)


def grown_drawing(chance, knots, lines):
    """A graph and a turning that draws it: each line is put in between pieces, or within a round."""
    graph, turning = Graph(knots, ()), ((),) * knots
    for _ in range(lines):
        places = own_places(graph, turning)
        pairs = [(one, other) for one in places for other in places if one[0] < other[0]]
        within = [(one, other) for one, other in pairs if places[one] == places[other]]
        apart = [(one, other) for one, other in pairs if places[one][0] != places[other][0]]
        chosen = apart if apart and (not within or chance.randrange(2)) else within
        if chosen:
            graph, turning = with_line(graph, turning, *chance.choice(chosen))
    return graph, turning


def with_hidden_bar(chance, bar, drawn=4, more=2, further=3, most=24):
    """A graph with the lines of a bar of five or six drawn longer, and a drawn graph and further lines beside them."""
    graph = FIVE if bar == "five" else CUBIC
    for _ in range(more):
        graph = longer(chance, graph)
    graph = glued(graph, grown_drawing(chance, drawn, drawn)[0], [chance.randrange(graph.many)])
    while further > 0 and len(graph.lines) < most:
        graph = Graph(graph.many, graph.lines + (tuple(sorted(chance.sample(range(graph.many), 2))),))
        further -= 1
    return renamed(chance, graph)


def own_lines_at(graph, knot):
    """All lines with this knot, ascending."""
    return [line for line, ends in enumerate(graph.lines) if knot in ends]


def own_pieces(graph):
    """Each knot's piece, grown till nothing comes to it."""
    found = set()
    for knot in range(graph.many):
        piece = {knot}
        for _ in range(graph.many):
            piece |= {end for ends in graph.lines if set(ends) & piece for end in ends}
        found.add(tuple(sorted(piece)))
    return tuple(sorted(found))


def own_walk(graph, start, lines):
    """The knots along the lines, or None where one does not go on."""
    knots = [start]
    for line in lines:
        ends = list(graph.lines[line])
        if knots[-1] not in ends:
            return None
        ends.remove(knots[-1])
        knots.append(ends[0])
    return knots


def own_is_way(graph, one, other, value):
    """By the words of [4.2]."""
    if type(value) is not tuple or not all(type(line) is int and 0 <= line < len(graph.lines) for line in value):
        return False
    knots = own_walk(graph, one, value)
    return knots is not None and knots[-1] == other and len(knots) == len(set(knots))


def own_ways(graph, one, other):
    """All ways between two knots."""
    found, rows = set(), [((), (one,))]
    while rows:
        lines, knots = rows.pop()
        if knots[-1] == other:
            found.add(lines)
            continue
        for line in own_lines_at(graph, knots[-1]):
            end = sum(graph.lines[line]) - knots[-1]
            if end not in knots:
                rows.append(((*lines, line), (*knots, end)))
    return found


def own_circles(graph):
    """All circles, as [6.1] tells them."""
    found = set()
    for first, (low, high) in enumerate(graph.lines):
        for way in own_ways(graph, low, high):
            if first < min(way):
                found.add((first, *(way if way[0] <= way[-1] else way[::-1])))
    return found


def own_even_lots(graph):
    """All even lots of lines."""
    lines = range(len(graph.lines))
    return {lot for size in range(len(lines) + 1) for lot in combinations(lines, size)
            if all(sum(knot in graph.lines[line] for line in lot) % 2 == 0 for knot in range(graph.many))}


def own_behind(graph, turning, step):
    """The step behind a step, by the words of [5.2]."""
    line, direction = step
    knot = graph.lines[line][1] if direction == 0 else graph.lines[line][0]
    turn = turning[knot] + turning[knot]
    follower = turn[turn.index(line) + 1]
    return (follower, 0) if graph.lines[follower][0] == knot else (follower, 1)


def own_rounds(graph, turning):
    """All rounds with steps, each from its least step on."""
    left, found = {(line, way) for line in range(len(graph.lines)) for way in (0, 1)}, []
    while left:
        row = [min(left)]
        while own_behind(graph, turning, row[-1]) != row[0]:
            row.append(own_behind(graph, turning, row[-1]))
        left -= set(row)
        found.append(tuple(row))
    return tuple(found)


def own_handles(graph, turning):
    """For each piece the h of [5.3]."""
    found, rows = [], own_rounds(graph, turning)
    for piece in own_pieces(graph):
        lines = [line for line, ends in enumerate(graph.lines) if ends[0] in piece]
        count = sum(row[0][0] in lines for row in rows) if lines else 1
        twice = 2 - (len(piece) - len(lines) + count)
        assert twice >= 0 and twice % 2 == 0
        found.append(twice // 2)
    return tuple(found)


def own_places(graph, turning):
    """For each spot the piece and the round in which it lies, rounds being told by something that only they have."""
    pieces, walked = own_pieces(graph), {}
    for at, row in enumerate(own_rounds(graph, turning)):
        walked.update({step: ("walked", at) for step in row})
    found = {}
    for piece in pieces:
        for knot in piece:
            for at in range(len(turning[knot]) + 1):
                line = turning[knot][at % len(turning[knot])] if turning[knot] else None
                leaving = None if line is None else (line, 0 if graph.lines[line][0] == knot else 1)
                found[(knot, at)] = (piece, walked.get(leaving, ("bare", knot)))
    return found


def all_turnings(graph):
    """All turnings, each turn begun with its least line."""
    turns = []
    for knot in range(graph.many):
        first, *more = own_lines_at(graph, knot) or [None]
        turns.append([() if first is None else (first, *rest) for rest in permutations(more)])
    return product(*turns)


def own_planar(graph):
    """Whether one of all turnings draws the graph; no piece has more rounds than if it is drawn."""
    bare = sum(not own_lines_at(graph, knot) for knot in range(graph.many))
    wanted = 2 * len(own_pieces(graph)) - graph.many + len(graph.lines) - bare
    return any(len(own_rounds(graph, turning)) == wanted for turning in all_turnings(graph))


def is_own_turning(graph, value):
    """By the words of [5.1]."""
    return (type(value) is tuple and len(value) == graph.many and all(type(turn) is tuple for turn in value)
            and all(type(line) is int for turn in value for line in turn)
            and all(sorted(turn) == own_lines_at(graph, knot) for knot, turn in enumerate(value)))


def own_is_bar(graph, value):
    """By the words of [7.1], for values of the kinds of a bar."""
    if value[0] == "five":
        lots, pairs = value[1:2], list(combinations(value[1], 2))
        fits = len(value[1]) == 5
    else:
        lots, pairs = value[1:3], [(a, b) for a in value[1] for b in value[2]]
        fits = len(value[1]) == len(value[2]) == 3 and min(value[1]) < min(value[2])
    branches = [knot for lot in lots for knot in lot]
    if not fits or any(list(lot) != sorted(set(lot)) for lot in lots) or len(set(branches)) < len(branches):
        return False
    if len(value[-1]) != len(pairs) or not set(branches) <= set(range(graph.many)):
        return False
    if not all(own_is_way(graph, one, other, way) for (one, other), way in zip(pairs, value[-1])):
        return False
    walks = [own_walk(graph, one, way) for (one, _), way in zip(pairs, value[-1])]
    for walk, more in combinations(walks, 2):
        ends = {walk[0], walk[-1]} & {more[0], more[-1]} & set(branches)
        if not set(walk) & set(more) <= ends:
            return False
    return not any(set(walk[1:-1]) & set(branches) for walk in walks)


def own_bars(graph):
    """All bars of a small graph, ways being told one by one."""
    knots = range(graph.many)
    forms = [("five", lot, list(combinations(lot, 2))) for lot in combinations(knots, 5)]
    for lot in combinations(knots, 6):
        for two in combinations(lot[1:], 2):
            others = tuple(knot for knot in lot[1:] if knot not in two)
            forms.append(("six", (lot[0], *two), others, [(a, b) for a in (lot[0], *two) for b in others]))
    found = []
    for *head, pairs in forms:
        branches = {knot for lot in head[1:] for knot in lot}
        rows = [((), branches)]
        for one, other in pairs:
            rows = [((*ways, way), used | inner) for ways, used in rows for way in own_ways(graph, one, other)
                    for inner in [set(own_walk(graph, one, way)[1:-1])] if not inner & used]
        found.extend((*head, ways) for ways, _ in rows)
    return found


def own_are_clumps(graph, value):
    """By the words of [7.4], for values of the kinds of clumps."""
    sides = value[1:]
    clumps = [clump for side in sides for clump in side]
    met = [knot for clump in clumps for knot in clump]
    if len(set(met)) < len(met) or any(list(side) != sorted(side) for side in sides):
        return False
    for clump in clumps:
        inner = tuple((a, b) for a, b in graph.lines if a in clump and b in clump)
        hang = own_pieces(Graph(graph.many, inner))
        if not clump or list(clump) != sorted(set(clump)) or not any(set(clump) <= set(piece) for piece in hang):
            return False
    joined = {(i, j) for i, one in enumerate(clumps) for j, other in enumerate(clumps)
              for a, b in graph.lines if (a in one and b in other) or (b in one and a in other)}
    if value[0] == "five":
        return len(sides) == 1 and len(clumps) == 5 and all(pair in joined for pair in combinations(range(5), 2))
    sizes = [len(side) for side in sides] == [3, 3]
    return sizes and min(met) in clumps[0] and all((i, j) in joined for i in (0, 1, 2) for j in (3, 4, 5))


def check_errors(call, good, bad):
    """Each wrong argument raises its error, whatever is wrong behind it; a wrong number is kept.

    Behind `good` arguments the dict `bad` has, by the index of the parameter, its error and values that raise it;
    parameters without an entry are judged values.
    """
    call(*good)
    for at, (error, values) in bad.items():
        for value in values:
            args = [*good[:at], value, *good[at + 1:]]
            found = caught(error, call, *args)
            if hasattr(found, "given"):
                assert found.given is value
        for later in range(at + 1, len(good)):
            for worse in (bad[later][1][:3] if later in bad else (None, FOUR, LONGEST)):
                args = [*good[:at], values[0], *good[at + 1:later], worse, *good[later + 1:]]
                found = caught(error, call, *args)
                if hasattr(found, "given"):
                    assert found.given is values[0]
