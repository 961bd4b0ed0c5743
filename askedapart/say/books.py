"""Books of sayings: their sums, the lots of sayings that cancel, and their pieces."""

from askedapart.base.bits import kernel
from askedapart.base.checks import are_ascending, has_size, is_bit, is_bit_for_each, is_index, is_integer
from askedapart.errors import InvalidBits, InvalidBook, InvalidLot, InvalidNumber, InvalidOperation, TooMany

MOST_UNKNOWNS = 24
MOST_SAYINGS = 16
MOST_MEMBERS = 8


class Book:
    """A number of unknowns, and sayings of them, each unknown in one at least."""

    def __init__(self, many, sayings):
        if not is_integer(many) or not 1 <= many <= MOST_UNKNOWNS:
            raise InvalidBook("a book has 1 to 24 unknowns")
        if not has_size(sayings, 1, MOST_SAYINGS) or not all([is_saying(saying, many) for saying in sayings]):
            raise InvalidBook("a book has a tuple of 1 to 16 sayings of its unknowns")
        if len({unknown for members, _ in sayings for unknown in members}) < many:
            raise InvalidBook("an unknown stands in no saying")
        self._many = many
        self._sayings = sayings

    @property
    def many(self):
        """How many unknowns there are."""
        return self._many

    @property
    def sayings(self):
        """The tuple of the sayings."""
        return self._sayings

    def __eq__(self, other):
        return isinstance(other, Book) and self._many == other._many and self._sayings == other._sayings

    def __str__(self):
        return f"book of {self._many} unknowns, {len(self._sayings)} sayings"


def is_saying(value, many):
    """Whether the value is a saying of unknowns below many."""
    if not has_size(value, 2, 2) or not is_bit(value[1]):
        return False
    return has_size(value[0], 1, MOST_MEMBERS) and are_ascending(value[0], many)


def check_book(value):
    """InvalidBook unless the value is a book."""
    if not isinstance(value, Book):
        raise InvalidBook("no book")


def check_lot(book, value):
    """The errors of a book with a lot of it."""
    check_book(book)
    if not are_ascending(value, len(book.sayings)):
        raise InvalidLot("a lot is an ascending tuple of indices of sayings")


def check_saying(book, saying):
    """InvalidNumber unless this is the index of a saying of the book."""
    if not is_index(saying, len(book.sayings)):
        raise InvalidNumber(saying)


def check_unknown(book, unknown):
    """InvalidNumber unless this is an unknown of the book."""
    if not is_index(unknown, book.many):
        raise InvalidNumber(unknown)


def is_lot(book, value):
    """Whether the value is a lot of the book; () is one."""
    check_book(book)
    return are_ascending(value, len(book.sayings))


def saying_rows(book):
    """For each saying the row that has 1 at its members."""
    return tuple([tuple([int(e in members) for e in range(book.many)]) for members, _ in book.sayings])


def saying_bits(book):
    """The tuple of the bits of all sayings."""
    return tuple([bit for _, bit in book.sayings])


def sum_of(book, lot):
    """The unknowns that stand in an odd number of the sayings of the lot, and the sum of their bits."""
    check_lot(book, lot)
    met = [e for at in lot for e in book.sayings[at][0]]
    members = tuple([e for e in range(book.many) if met.count(e) & 1])
    return members, sum([book.sayings[at][1] for at in lot]) & 1


def does_cancel(book, lot):
    """Whether the lot has a saying, and each unknown stands in an even number of its sayings."""
    return sum_of(book, lot)[0] == () and lot != ()


def is_odd(book, lot):
    """Whether the bits of the sayings of the lot sum to 1."""
    return sum_of(book, lot)[1] == 1


def cancelling(book):
    """The basis of all lots that cancel: least indices ascend, each in no other lot of it."""
    check_book(book)
    sayings = range(len(book.sayings))
    places = tuple([tuple([int(e in book.sayings[at][0]) for at in sayings]) for e in range(book.many)])
    return tuple([tuple([at for at in sayings if row[at]]) for row in kernel(places)])


def with_unknown(book, unknown):
    """The ascending tuple of the sayings with the unknown, which is one of the book."""
    return tuple([at for at, (members, _) in enumerate(book.sayings) if unknown in members])


def sayings_with(book, unknown):
    """The ascending tuple of the sayings with the unknown."""
    check_book(book)
    check_unknown(book, unknown)
    return with_unknown(book, unknown)


def pieces(book):
    """The ascending tuple of all lots that hang together."""
    check_book(book)
    # Each saying is labelled by the least one that is known to hang together with it.
    labels = list(range(len(book.sayings)))
    for unknown in range(book.many):
        joined = [labels[at] for at in with_unknown(book, unknown)]
        labels = [min(joined) if label in joined else label for label in labels]
    return tuple([tuple([at for at, label in enumerate(labels) if label == least]) for least in sorted(set(labels))])


def is_paired(book):
    """Whether each unknown stands in just two sayings."""
    check_book(book)
    return all([len(with_unknown(book, unknown)) == 2 for unknown in range(book.many)])


def piece_book(book, piece):
    """The book of the sayings of a piece, its unknowns told from 0 on, and what these were."""
    lots = pieces(book)
    if not is_index(piece, len(lots)):
        raise InvalidNumber(piece)
    sayings = [book.sayings[at] for at in lots[piece]]
    olds = sorted({e for members, _ in sayings for e in members})
    told = tuple([(tuple([olds.index(e) for e in members]), bit) for members, bit in sayings])
    return Book(len(olds), told), tuple(olds)


def beside(one, other):
    """The book of the sayings of both, the unknowns of the other one counted on behind those of the one."""
    check_book(one)
    check_book(other)
    if one.many + other.many > MOST_UNKNOWNS:
        raise TooMany(MOST_UNKNOWNS)
    if len(one.sayings) + len(other.sayings) > MOST_SAYINGS:
        raise TooMany(MOST_SAYINGS)
    moved = tuple([(tuple([one.many + e for e in members]), bit) for members, bit in other.sayings])
    return Book(one.many + other.many, one.sayings + moved)


def with_bits(book, bits):
    """The book with these bits of its sayings."""
    check_book(book)
    if not is_bit_for_each(bits, len(book.sayings)):
        raise InvalidBits("a tuple of a bit for each saying is asked for")
    return Book(book.many, tuple([(members, bit) for (members, _), bit in zip(book.sayings, bits)]))


def turned(book, unknowns):
    """The book with some unknowns turned: a saying's bit changes if an odd number of them stand in it."""
    check_book(book)
    if not are_ascending(unknowns, book.many):
        raise InvalidOperation("an ascending tuple of unknowns is asked for")
    changes = [len([e for e in unknowns if e in members]) & 1 for members, _ in book.sayings]
    return with_bits(book, tuple([bit ^ change for (_, bit), change in zip(book.sayings, changes)]))
