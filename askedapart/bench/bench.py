"""A bench: a book that is led by deeds, which can be undone, and signs and operators that are led along."""

from askedapart.base.checks import has_form, is_bit, is_bit_for_each, is_index, is_order
from askedapart.errors import InvalidBits, InvalidOperation, NothingToUndo, TooMany
from askedapart.main.answers import answer, kinds
from askedapart.say.books import MOST_SAYINGS, MOST_UNKNOWNS, Book, beside, check_book, is_saying, piece_book, pieces
from askedapart.say.books import saying_bits, turned, with_bits
from askedapart.sign.answers import check_operators_for
from askedapart.sign.operators import with_sign

MOST_DEEDS = 200
LEADING = ("turn", "split", "names", "sequence", "piece")


def is_split(book, deed):
    """Whether a deed of four members splits an unknown of the saying that it tells."""
    _, unknown, saying, bit = deed
    if not is_index(unknown, book.many) or not is_index(saying, len(book.sayings)) or not is_bit(bit):
        return False
    return unknown in book.sayings[saying][0]


def does_fit(book, value):
    """Whether the value is a deed that fits the book."""
    if has_form(value, "turn", 2):
        return is_index(value[1], book.many)
    if has_form(value, "bit", 2):
        return is_index(value[1], len(book.sayings))
    if has_form(value, "names", 2):
        return is_order(value[1], book.many)
    if has_form(value, "sequence", 2):
        return is_order(value[1], len(book.sayings))
    if has_form(value, "beside", 2):
        return isinstance(value[1], Book)
    if has_form(value, "piece", 2):
        return is_index(value[1], len(pieces(book)))
    if has_form(value, "saying", 3):
        return is_saying(value[1:], book.many)
    return has_form(value, "split", 4) and is_split(book, value)


def check_deed(book, deed):
    """InvalidOperation unless this is a deed that fits the book."""
    if not does_fit(book, deed):
        raise InvalidOperation("no deed that fits the book")


def check_room(unknowns, sayings):
    """TooMany for more unknowns, or sayings, than a book may have."""
    if unknowns > MOST_UNKNOWNS:
        raise TooMany(MOST_UNKNOWNS)
    if sayings > MOST_SAYINGS:
        raise TooMany(MOST_SAYINGS)


def check_deed_room(book, deed):
    """TooMany if the book behind a deed that fits, other than "beside", would have too many unknowns or sayings."""
    more = int(deed[0] == "split")
    check_room(book.many + more, len(book.sayings) + int(deed[0] in ("split", "saying")))


def with_new_bit(book, saying):
    """The book with the bit of a saying turned."""
    return with_bits(book, tuple([bit ^ int(at == saying) for at, bit in enumerate(saying_bits(book))]))


def with_split(book, unknown, saying, bit):
    """The book with a new unknown in a saying in the place of the unknown, and a new saying of both."""
    members, old = book.sayings[saying]
    # The new unknown is the greatest one, so that it stands last.
    other = (tuple([e for e in members if e != unknown]) + (book.many,), old ^ bit)
    sayings = [other if at == saying else kept for at, kept in enumerate(book.sayings)]
    return Book(book.many + 1, (*sayings, ((unknown, book.many), bit)))


def with_names(book, order):
    """The book in which the unknown with the place k in the order gets the number k."""
    sayings = [(tuple(sorted([order.index(e) for e in members])), bit) for members, bit in book.sayings]
    return Book(book.many, tuple(sayings))


def book_by(book, deed):
    """The book behind a deed that fits; TooMany for too many unknowns or sayings."""
    word = deed[0]
    if word == "beside":
        return beside(book, deed[1])
    check_deed_room(book, deed)
    if word == "turn":
        return turned(book, (deed[1],))
    if word == "bit":
        return with_new_bit(book, deed[1])
    if word == "split":
        return with_split(book, deed[1], deed[2], deed[3])
    if word == "names":
        return with_names(book, deed[1])
    if word == "sequence":
        return Book(book.many, tuple([book.sayings[at] for at in deed[1]]))
    if word == "piece":
        return piece_book(book, deed[1])[0]
    return Book(book.many, (*book.sayings, deed[1:]))


class Bench:
    """A book that is led by deeds."""

    def __init__(self, book):
        check_book(book)
        # The book as it was at first, and behind each deed that was done and not undone.
        self._books = (book,)
        self._deeds = ()
        # Pairs of a deed and the book behind it, the last one undone at the end.
        self._undone = ()

    @property
    def book(self):
        """The book as it is now."""
        return self._books[-1]

    @property
    def deeds(self):
        """The tuple of the deeds that were done and not undone."""
        return self._deeds

    def __str__(self):
        return f"bench of {self.book.many} unknowns, {len(self.book.sayings)} sayings, {len(self.deeds)} deeds"

    def do(self, deed):
        """Do a deed."""
        check_deed(self.book, deed)
        if len(self._deeds) == MOST_DEEDS:
            raise TooMany(MOST_DEEDS)
        self._books = (*self._books, book_by(self.book, deed))
        self._deeds = (*self._deeds, deed)
        self._undone = ()

    def undo(self):
        """Undo the last deed that was not undone."""
        if self._deeds == ():
            raise NothingToUndo(0)
        self._undone = (*self._undone, (self._deeds[-1], self._books[-1]))
        self._books = self._books[:-1]
        self._deeds = self._deeds[:-1]

    def again(self):
        """Do the last deed that was undone again."""
        if self._undone == ():
            raise NothingToUndo(len(self._deeds))
        deed, book = self._undone[-1]
        self._books = (*self._books, book)
        self._deeds = (*self._deeds, deed)
        self._undone = self._undone[:-1]

    def kinds(self):
        """The kinds of all pieces of the book."""
        return kinds(self.book)

    def answer(self):
        """The answer for the book."""
        return answer(self.book)


def check_leading(book, deed):
    """The errors of a book with a deed by which signs and operators are led."""
    check_book(book)
    check_deed(book, deed)
    if deed[0] not in LEADING:
        raise InvalidOperation("the deed leads no signs, and no operators")


def led_values(book, deed, values, turns):
    """What is led by a deed, values of all unknowns being given, and those with turned signs."""
    word = deed[0]
    if word == "turn":
        return tuple([turns[e] if e == deed[1] else value for e, value in enumerate(values)])
    if word == "split":
        chosen = turns if deed[3] else values
        return (*values, chosen[deed[1]])
    if word == "names":
        return tuple([values[e] for e in deed[1]])
    if word == "piece":
        return tuple([values[e] for e in piece_book(book, deed[1])[1]])
    return values


def led_signs(book, deed, signs):
    """The signs that are led by a deed."""
    check_leading(book, deed)
    if not is_bit_for_each(signs, book.many):
        raise InvalidBits("signs are a tuple of a bit for each unknown")
    check_deed_room(book, deed)
    return led_values(book, deed, signs, [1 - bit for bit in signs])


def led_operators(book, deed, operators):
    """The operators that are led by a deed."""
    check_leading(book, deed)
    check_operators_for(book, operators)
    check_deed_room(book, deed)
    turns = [with_sign(int(operator[0] == "+"), operator) for operator in operators]
    return led_values(book, deed, operators, turns)
