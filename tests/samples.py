"""Values that several tests use, and sums of bits as one would do them by hand."""

from itertools import chain, combinations, product
from random import Random

from askedapart.say.books import Book

SQUARE = Book(9, (((0, 1, 2), 0), ((3, 4, 5), 0), ((6, 7, 8), 0), ((0, 3, 6), 0), ((1, 4, 7), 0), ((2, 5, 8), 1)))
PENTAGRAM = Book(10, (((0, 1, 2, 3), 0), ((0, 4, 5, 6), 0), ((1, 4, 7, 8), 0), ((2, 5, 7, 9), 0), ((3, 6, 8, 9), 1)))
TRIANGLE = Book(3, (((0, 1), 0), ((0, 2), 0), ((1, 2), 1)))
CHAIN = Book(3, (((0, 1), 1), ((1, 2), 0), ((2,), 1)))
# 24 unknowns, 16 sayings, each unknown in just two: a ring of 16 sayings, and 8 lines across.
LARGE = Book(24, tuple((tuple(sorted([k, (k + 1) % 16, 16 + k % 8])), int(k == 0)) for k in range(16)))

LONG = 10 ** 60          # 61 digits
LONGEST = 10 ** 99       # 100 digits


def deep(value, levels, wrap):
    """The value in so many tuples or lists."""
    for _ in range(levels):
        value = wrap([value])
    return value


# Nothing here is a book, a row, rows, a lot, a pick, a wish or signs for any book.
NOTHING = (None, True, False, 0, 1, -1, 2, LONG, -LONG, LONGEST, "", "bits", "lot", "0" * 250000, [], [0], [[0]], {},
           {0: 1}, {"bits": (0,)}, (None,), (True,), (False,), ("0",), ("",), (-1,), (LONG,), (-LONG,), (LONGEST,),
           ([],), ({},), ([0],), (0, True), (True, 0), (0, None), (0, -1), (0, "1"), (2, 1), (0, 0, LONG),
           deep(0, 8, tuple), deep(0, 8, list), deep((0, 1), 7, tuple), (("bits",),), SQUARE, (SQUARE,),
           ("bits",), ("bits", None), ("bits", True), ("bits", [0]), ("bits", (True,)), ("bits", "0"), ("bits", SQUARE),
           ("bits", (LONG,)), ["bits", (0,)], (["bits"], (0,)), ({}, (0,)), (SQUARE, (0,)), (None, (0,)), (0, (0,)),
           ("lot", None), ("lot", True), ("lot", [0]), ("lot", (True,)), ("lot", "0"), ("lot", (LONG,)),
           ("lot", (-1,)), ("lot", ((0,),)), ("signs", None), ("signs", (True, False)), ("signs", [0, 1]),
           ("sum", None), ("sum", (True,)), ("sum", [0]), ("test", None), ("test", [0]), ("test", (True,)),
           ("bar", None), ("bar", (True,)), ("bar", [0, 1]), ("bar", (-1,)), ("bits", (0,), ()), ("what", (0,)))


def all_bits(length):
    """All rows of bits of this length, ascending."""
    return list(product((0, 1), repeat=length))


def all_picks(many):
    """All ascending tuples of numbers below many."""
    return list(chain.from_iterable(combinations(range(many), size) for size in range(many + 1)))


def all_tuples(many, longest):
    """All tuples of numbers from -1 to many, as long as told or shorter: wrong picks are among them."""
    return [row for size in range(longest + 1) for row in product(range(-1, many + 1), repeat=size)]


def own_sum(rows, pick, length):
    """The sum of the rows in the pick, place by place."""
    return tuple(sum(rows[k][at] for k in pick) % 2 for at in range(length))


def own_product(one, other):
    """How many places have 1 in both, modulo 2."""
    return sum(a * b for a, b in zip(one, other)) % 2


def own_span(rows, length):
    """The set of the sums of all picks."""
    return {own_sum(rows, pick, length) for pick in all_picks(len(rows))}


def is_basis_form(rows):
    """Whether heads ascend, each the place of 1 in no other row."""
    if not all(1 in row for row in rows):
        return False
    heads = [row.index(1) for row in rows]
    return heads == sorted(set(heads)) and all(sum(row[head] for row in rows) == 1 for head in heads)


def random_rows(chance, many, length, ones=2):
    """Rows of bits, one of so many being 1."""
    return tuple(tuple(int(chance.randrange(ones) == 0) for _ in range(length)) for _ in range(many))


def random_book(chance, most_unknowns=4, most_sayings=5):
    """A small book, with whatever sayings; equal ones and several pieces come, too."""
    many = chance.randint(1, most_unknowns)
    while True:
        sayings = []
        for _ in range(chance.randint(1, most_sayings)):
            members = tuple(sorted(chance.sample(range(many), chance.randint(1, min(many, 8)))))
            sayings.append((members, chance.randrange(2)))
        if {e for members, _ in sayings for e in members} == set(range(many)):
            return Book(many, tuple(sayings))


def random_paired(chance, most_sayings, most_unknowns):
    """A paired book, perhaps with several pieces; each saying has one unknown at least."""
    while True:
        sayings = chance.randint(2, most_sayings)
        unknowns = chance.randint((sayings + 1) // 2, min(most_unknowns, 4 * sayings))
        members = [[] for _ in range(sayings)]
        for e in range(unknowns):
            for s in chance.sample(range(sayings), 2):
                members[s].append(e)
        if all(1 <= len(found) <= 8 for found in members):
            return Book(unknowns, tuple((tuple(found), chance.randrange(2)) for found in members))


def small_books(many, seed=1):
    """So many small books, the same ones in each run."""
    chance = Random(seed)
    return [random_book(chance) for _ in range(many)]


def caught(error, call, *given):
    """The error of just this class that the call raises; anything else fails."""
    try:
        result = call(*given)
    except Exception as found:
        if type(found) is not error:
            raise AssertionError(f"{call.__name__}: {type(found).__name__} instead of {error.__name__}") from found
        return found
    raise AssertionError(f"{call.__name__} returned {result!r:.200} instead of raising {error.__name__}")
