"""Books that tests of operators and undoings use: with hidden operators, drawn longer, turned, in several pieces."""

from itertools import chain, combinations
from random import Random

from askedapart.net.graphs import Graph
from askedapart.say.books import Book, beside
from graph_samples import grown_drawing, with_hidden_bar
from operator_samples import own_commute, own_times, random_operator
from samples import PENTAGRAM, SQUARE, TRIANGLE

WIDER = Book(11, (((0, 1, 2, 9), 0), ((3, 4, 5, 9), 0), ((6, 7, 8), 0), ((0, 3, 6, 10), 0), ((1, 4, 7, 10), 0), ((2, 5, 8), 1)))
BOTH = Book(12, (*SQUARE.sayings, ((9, 10), 0), ((9, 11), 0), ((10, 11), 1)))
# 24 unknowns and 16 sayings, no lot of which cancels: each saying has an unknown that no other one has.
FREE = Book(24, tuple(((k, 16 + k % 8), k % 2) for k in range(16)))


def split(book, e, at, bit):
    """The book with a new unknown in the place of e in the saying, and a new saying of both."""
    sayings = []
    for place, (members, old) in enumerate(book.sayings):
        if place == at:
            members, old = tuple(sorted([book.many if f == e else f for f in members])), old ^ bit
        sayings.append((members, old))
    return Book(book.many + 1, (*sayings, ((e, book.many), bit)))


def drawn_longer(chance, book, times):
    """The book after some splits, of whatever unknowns, with whatever bits."""
    for _ in range(times):
        at = chance.randrange(len(book.sayings))
        book = split(book, chance.choice(book.sayings[at][0]), at, chance.randrange(2))
    return book


def bent(book, at):
    """The book with the bit of one saying turned."""
    return Book(book.many, tuple((members, bit ^ (place == at)) for place, (members, bit) in enumerate(book.sayings)))


def mixed_up(chance, book):
    """The book with its unknowns and its sayings in another sequence."""
    order = chance.sample(range(book.many), book.many)
    sayings = [(tuple(sorted(order[e] for e in members)), bit) for members, bit in book.sayings]
    return Book(book.many, tuple(chance.sample(sayings, len(sayings))))


def hidden(chance, length, unknowns, sayings):
    """A book, and right operators for it: products of a few that commute stand in one saying with them."""
    held = [random_operator(chance, length) for _ in range(unknowns)]
    told = []
    for _ in range(200):
        some = chance.sample(range(len(held)), chance.randint(1, min(4, len(held))))
        if len(told) == sayings or not all(own_commute(held[i], held[j]) for i, j in combinations(some, 2)):
            continue
        power, letters = own_times(*[held[at] for at in some])
        same = [at for at, operator in enumerate(held) if operator[1:] == letters and at not in some]
        if not same and len(held) == 24:
            continue
        if not same:
            held.append(chance.choice("+-") + letters)
            same = [len(held) - 1]
        members = tuple(sorted([*some, same[0]]))
        told.append((members, own_times(*[held[at] for at in members])[0] // 2))
    used = sorted({e for members, _ in told for e in members})
    book = Book(len(used), tuple((tuple(used.index(e) for e in members), bit) for members, bit in told))
    return book, tuple(held[e] for e in used)


def paired_of(graph, bits):
    """The paired book of a graph."""
    members = [tuple(line for line, ends in enumerate(graph.lines) if knot in ends) for knot in range(graph.many)]
    return Book(len(graph.lines), tuple(zip(members, bits)))


def fits(graph):
    """Whether each knot has one to eight lines."""
    return all(1 <= sum(knot in ends for ends in graph.lines) <= 8 for knot in range(graph.many))


def is_whole(graph):
    """Whether all knots hang together."""
    piece = {0}
    for _ in range(graph.many):
        piece |= set(chain.from_iterable(ends for ends in graph.lines if piece & set(ends)))
    return len(piece) == graph.many


def odd_bits(chance, many):
    """Bits with the sum 1."""
    bits = [chance.randrange(2) for _ in range(many - 1)]
    return (*bits, 1 - sum(bits) % 2)


def barred_book(chance, word=None, **told):
    """A paired book in one piece, with an odd sum, whose graph has a hidden bar."""
    while True:
        graph = with_hidden_bar(chance, word or chance.choice(("five", "six")), **told)
        if graph.many <= 16 and len(graph.lines) <= 24 and fits(graph) and is_whole(graph):
            return paired_of(graph, odd_bits(chance, graph.many))


def planar_book(chance, knots, lines):
    """A paired book in one piece, with an odd sum, and a turning that draws its graph."""
    while True:
        graph, turning = grown_drawing(chance, chance.randint(2, knots), chance.randint(1, lines))
        if fits(graph) and is_whole(graph):
            return paired_of(graph, odd_bits(chance, graph.many)), turning


def even_book(chance, knots, lines):
    """A paired book in one piece with an even sum."""
    book, _ = planar_book(chance, knots, lines)
    return bent(book, chance.randrange(len(book.sayings)))


def cancelling_lots(book):
    """All lots that cancel, all being gone through."""
    sayings = range(len(book.sayings))
    lots = chain.from_iterable(combinations(sayings, size) for size in range(1, len(sayings) + 1))
    return [lot for lot in lots if all(sum(e in book.sayings[at][0] for at in lot) % 2 == 0 for e in range(book.many))]


def lot_bit(book, lot):
    """The sum of the bits of a lot."""
    return sum(book.sayings[at][1] for at in lot) % 2


def own_crossings(book, lot):
    """By the words of [11.1]."""
    row = [e for at in lot for e in book.sayings[at][0]]
    found = []
    for e, f in combinations(range(book.many), 2):
        if sum(row[i] == f and row[j] == e for i, j in combinations(range(len(row)), 2)) % 2:
            found.append((e, f))
    return tuple(found)


def own_is_paper(book, lot, pairs, hits):
    """By the words of [11.4], for values of the kinds told."""
    if lot not in cancelling_lots(book) or lot_bit(book, lot) == 0:
        return False
    members = [row for row, _ in book.sayings]
    if any(list(row) != sorted(set(row)) for row in (pairs, hits)):
        return False
    if not all(e < f and any(e in row and f in row for row in members) for e, f in pairs):
        return False
    if not all(0 <= s < len(members) and 0 <= f < book.many for s, f in hits):
        return False
    crossed = own_crossings(book, lot)
    return all((((e, f) in crossed) + ((e, f) in pairs) + sum(e in members[s] for s, g in hits if g == f)
                + sum(f in members[s] for s, g in hits if g == e)) % 2 == 0 for e, f in combinations(range(book.many), 2))


def general_books(many, seed):
    """Books with hidden operators, the same with one bit bent, drawn longer ones, several pieces."""
    chance = Random(seed)
    found = [SQUARE, PENTAGRAM, TRIANGLE, WIDER, BOTH, FREE, bent(SQUARE, 0), bent(PENTAGRAM, 3), beside(SQUARE, SQUARE),
             beside(SQUARE, bent(SQUARE, 2)), beside(TRIANGLE, TRIANGLE), Book(1, (((0,), 0),)), Book(1, (((0,), 1), ((0,), 0))),
             Book(1, (((0,), 1),) * 16), Book(24, ((tuple(range(8)), 1), (tuple(range(8, 16)), 0), (tuple(range(16, 24)), 1)))]
    for _ in range(many):
        book, _ = hidden(chance, chance.randint(1, 4), chance.randint(1, 5), chance.randint(1, 9))
        found.append(book)
        found.append(bent(book, chance.randrange(len(book.sayings))))
        found.append(mixed_up(chance, drawn_longer(chance, chance.choice((SQUARE, PENTAGRAM, TRIANGLE)), chance.randint(1, 4))))
    return found


def plain_graph(book):
    """The graph of a paired book, put together by hand."""
    ends = [tuple(at for at, (members, _) in enumerate(book.sayings) if e in members) for e in range(book.many)]
    return Graph(len(book.sayings), tuple(ends))
