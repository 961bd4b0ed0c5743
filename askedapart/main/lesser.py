"""Lesser books: unknowns left out, sayings joined, operators led up again, and steps to a square or a pentagram."""

from askedapart.base.checks import has_form, is_bit, is_index, is_told
from askedapart.base.lots import pairs_below
from askedapart.errors import InvalidOperation, Refused, TooMany
from askedapart.main.lifts import check_lone
from askedapart.net.bars import clump_pairs, clumps_of, grown, lines_between, pairs_between, sides_of_clumps, some_bar
from askedapart.net.draw import turning_of
from askedapart.net.graphs import check_paired, graph_of
from askedapart.net.turns import is_drawn, is_turning
from askedapart.net.walks import all_lines, forest_among, lines_within
from askedapart.say.books import MOST_MEMBERS, Book, check_book, is_odd, is_paired, with_unknown
from askedapart.sign.answers import check_operators_for, check_right
from askedapart.sign.operators import times_all, with_sign


def is_step(book, value):
    """Whether the value is a step of the book, whether or not it can be done."""
    if has_form(value, "out", 3):
        return is_index(value[1], book.many) and is_bit(value[2])
    return is_told(value, "join") and is_index(value[1], book.many)


def check_step(book, step):
    """The errors of a book with a step of it."""
    check_book(book)
    if not is_step(book, step):
        raise InvalidOperation("a step leaves an unknown out, or joins its sayings")
    check_paired(book)


def rows_behind(book, step):
    """Triples (saying, members, bit), unknowns and sayings being told as they were ahead of the step."""
    low, high = with_unknown(book, step[1])
    rows = [(at, members, bit) for at, (members, bit) in enumerate(book.sayings)]
    if step[0] == "out":
        return [(at, tuple([e for e in members if e != step[1]]), bit ^ step[2]) if at in (low, high)
                else (at, members, bit) for at, members, bit in rows]
    one, other = book.sayings[low], book.sayings[high]
    apart = tuple([e for e in range(book.many) if (e in one[0]) != (e in other[0])])
    joined = (low, apart, one[1] ^ other[1])
    return [joined if row[0] == low else row for row in rows if row[0] != high]


def false_rows(rows):
    """The list of the sayings that would have no unknown, but the bit 1."""
    return [at for at, members, bit in rows if members == () and bit == 1]


def staying(rows):
    """The ascending tuple of the unknowns that some saying has."""
    return tuple(sorted({e for _, members, _ in rows for e in members}))


def is_long(rows):
    """Whether a saying would have more than eight unknowns."""
    return any([len(members) > MOST_MEMBERS for _, members, _ in rows])


def book_of_rows(rows):
    """The book of all sayings with unknowns, these being numbered anew."""
    names = {e: at for at, e in enumerate(staying(rows))}
    sayings = [(tuple([names[e] for e in members]), bit) for _, members, bit in rows if members != ()]
    return Book(len(names), tuple(sayings))


def lesser(book, step):
    """The book behind a step."""
    check_step(book, step)
    rows = rows_behind(book, step)
    wrong = false_rows(rows)
    if wrong:
        raise Refused(("false", wrong[0]))
    if staying(rows) == ():
        raise Refused(("nothing",))
    if is_long(rows):
        raise TooMany(MOST_MEMBERS)
    return book_of_rows(rows)


def stays(book, step):
    """The ascending tuple of the unknowns that stay."""
    check_step(book, step)
    return staying(rows_behind(book, step))


def books_along(book, steps):
    """The list of all books, the first one and those behind each step, up to the first that raises an error."""
    found = [book]
    for step in steps:
        # Behind a step a paired book is paired again; a book that is none lets no step be done.
        if not is_step(found[-1], step) or not is_paired(found[-1]):
            return found
        rows = rows_behind(found[-1], step)
        if false_rows(rows) or staying(rows) == () or is_long(rows):
            return found
        found.append(book_of_rows(rows))
    return found


def books_behind(book, steps):
    """The list of all books; InvalidOperation unless these are steps that can all be done."""
    if isinstance(steps, tuple):
        found = books_along(book, steps)
        if len(found) > len(steps):
            return found
    raise InvalidOperation("a tuple of steps that can be done, one behind the other, is asked for")


def book_behind(book, steps):
    """The book behind steps."""
    check_book(book)
    found = books_behind(book, steps)
    check_paired(book)
    return found[-1]


def up_by_step(book, step, operators):
    """Right operators of a book by ones of the book behind a step."""
    rows = rows_behind(book, step)
    idle = "+" + "I" * (len(operators[0]) - 1)
    found = dict(zip(staying(rows), operators))
    if step[0] == "out":
        found[step[1]] = with_sign(step[2], idle)
    else:
        members, bit = book.sayings[with_unknown(book, step[1])[0]]
        power, letters = times_all([idle, *[found[e] for e in members if e in found]])
        found[step[1]] = with_sign(bit ^ (power >> 1), letters)
    return tuple([found.get(e, idle) for e in range(book.many)])


def led_up(book, steps, operators):
    """Right operators of the book by ones of the book behind the steps, led up step by step."""
    check_book(book)
    books = books_behind(book, steps)
    check_operators_for(books[-1], operators)
    check_paired(book)
    check_right(books[-1], operators)
    found = operators
    for at in range(len(steps) - 1, -1, -1):
        found = up_by_step(books[at], steps[at], found)
    return found


def is_complete(graph):
    """Whether a graph has five knots, and one line between each two."""
    return graph.many == 5 and sorted(graph.lines) == pairs_below(5)


def is_crossed(graph):
    """Whether a graph has one line between each of three knots and each of three others, and no further knots."""
    others = [knot for knot in range(graph.many) if (0, knot) in graph.lines]
    ones = [knot for knot in range(graph.many) if knot not in others]
    wanted = sorted([tuple(sorted(pair)) for pair in pairs_between(ones, others)])
    return len(ones) == 3 and len(others) == 3 and sorted(graph.lines) == wanted


def core_kind(book):
    """The word "square" or "pentagram" if the book is one, otherwise None."""
    check_paired(book)
    if not is_odd(book, tuple(range(len(book.sayings)))):
        return None
    graph = graph_of(book)
    if is_complete(graph):
        return "pentagram"
    return "square" if is_crossed(graph) else None


def is_least(book):
    """Whether the book has right operators, and none behind one step has."""
    check_lone(book)
    return core_kind(book) is not None


def joins_along(graph, trees, ways):
    """The lines of the trees in a sequence in which ends without a way come ahead of all others."""
    left, found = list(trees), []
    while left:
        kept = left + ways
        met = [knot for line in kept for knot in graph.lines[line]]
        bare = [line for line in left if 1 in [met.count(knot) for knot in graph.lines[line]]]
        found.append((bare + left)[0])
        left = [line for line in left if line != found[-1]]
    return found


def core_lines(graph):
    """Lines that are to be left out, and lines that are to be joined, till a square or a pentagram is left."""
    clumps = sides_of_clumps(grown(graph, clumps_of(graph, some_bar(graph))))
    ways = [lines_between(graph, one, other)[0] for one, other in clump_pairs(clumps[0], clumps[1])]
    trees = [line for side in clumps for clump in side for line in forest_among(graph, lines_within(graph, clump))]
    idle = [line for line in all_lines(graph) if line not in trees and line not in ways]
    return idle, joins_along(graph, trees, ways)


def core_steps(book):
    """Steps that lead a book whose graph is not planar to a square or a pentagram."""
    idle, joins = core_lines(graph_of(book))
    left, now, steps = list(range(book.many)), book, []
    for form in [("out", line, 0) for line in idle] + [("join", line) for line in joins]:
        # The step is told by the number that the unknown has in its turn.
        step = (form[0], left.index(form[1]), *form[2:])
        left = [left[e] for e in stays(now, step)]
        now = lesser(now, step)
        steps.append(step)
    return tuple(steps)


def core_or_turning(book):
    """("core", steps) that lead to a square or a pentagram, or ("drawn", turning) that draws the graph of the book."""
    check_lone(book)
    graph = graph_of(book)
    turning = turning_of(graph, all_lines(graph))
    return ("core", core_steps(book)) if turning is None else ("drawn", turning)


def is_core_or_turning(book, value):
    """Whether the value is what core_or_turning may return."""
    check_lone(book)
    if is_told(value, "drawn"):
        graph = graph_of(book)
        return is_turning(graph, value[1]) and is_drawn(graph, value[1])
    if not is_told(value, "core") or not isinstance(value[1], tuple):
        return False
    books = books_along(book, value[1])
    return len(books) > len(value[1]) and core_kind(books[-1]) is not None
