"""All errors that the package raises."""


class SureError(ValueError):
    """An argument is not of the form that is asked for."""


class InvalidBits(SureError):
    """Not a row of bits, rows of bits, or a bit for each of some things."""


class InvalidBook(SureError):
    """Not a book."""


class InvalidLot(SureError):
    """Not a lot."""


class InvalidGraph(SureError):
    """Not a graph."""


class InvalidTurning(SureError):
    """Not a turning of the graph."""


class InvalidOperator(SureError):
    """Not an operator, or operators."""


class InvalidTable(SureError):
    """Not a table."""


class InvalidRow(SureError):
    """Not a row of unknowns."""


class InvalidState(SureError):
    """Not a state."""


class InvalidText(SureError):
    """Not a text."""


class InvalidClaim(SureError):
    """Not a claim."""


class InvalidOperation(SureError):
    """The arguments do not fit what is to be done, or one another."""


class ParseError(SureError):
    """A text cannot be read at a spot."""

    def __init__(self, spot):
        self.spot = spot


class InvalidNumber(IndexError):
    """A number that counts nothing here."""

    def __init__(self, given):
        self.given = given


class UnknownName(LookupError):
    """A name that stands for nothing."""

    def __init__(self, wanted):
        self.wanted = wanted


class NothingToUndo(LookupError):
    """Nothing is left that could be undone."""

    def __init__(self, done):
        self.done = done


class TooMany(OverflowError):
    """There are more than the limit."""

    def __init__(self, limit):
        self.limit = limit


class Refused(ArithmeticError):
    """What is asked cannot be; the first member of the reason is a word for why."""

    def __init__(self, reason):
        self.reason = reason
