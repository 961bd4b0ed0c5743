"""Texts: books, graphs, turnings, signs, operators, undoings and answers, written and read again."""

from askedapart.base.checks import are_ascending, is_bit_for_each
from askedapart.errors import InvalidBits, InvalidOperation, InvalidText, ParseError
from askedapart.main.answers import is_answer
from askedapart.net.graphs import MOST_KNOTS, MOST_LINES, Graph, check_graph, check_paired
from askedapart.net.turns import check_turning
from askedapart.net.walks import with_knot
from askedapart.say.books import MOST_SAYINGS, MOST_UNKNOWNS, Book, check_book, is_saying
from askedapart.say.undoings import MOST_STEPS, is_step, is_undoing
from askedapart.sign.answers import check_operators_for
from askedapart.sign.operators import is_operator

MOST_TEXT = 200000
# No number in a text has more digits than this.
MOST_DIGITS = 3


def written(lines):
    """The text of lines, each one told by its parts."""
    return "".join([" ".join([str(part) for part in parts]) + "\n" for parts in lines])


def book_text(book):
    """The text of a book."""
    check_book(book)
    lines = [("saying", *members, "is", "-" if bit else "+") for members, bit in book.sayings]
    return written([("unknowns", book.many), *lines])


def graph_text(graph):
    """The text of a graph."""
    check_graph(graph)
    return written([("knots", graph.many), *[("line", low, high) for low, high in graph.lines]])


def turning_text(graph, turning):
    """The text of a turning."""
    check_turning(graph, turning)
    return written([("turn", *lines) for lines in turning])


def lines_of_signs(signs):
    """The lines of signs."""
    return [("-" if bit else "+",) for bit in signs]


def lines_of_operators(operators):
    """The lines of operators."""
    return [(operator,) for operator in operators]


def lines_of_steps(steps):
    """The lines of steps of an undoing."""
    return [(*step[:3], *step[3]) if step[0] == "put" else step for step in steps]


def signs_text(book, signs):
    """The text of signs."""
    check_book(book)
    if not is_bit_for_each(signs, book.many):
        raise InvalidBits("signs are a tuple of a bit for each unknown")
    return written(lines_of_signs(signs))


def operators_text(book, operators):
    """The text of operators."""
    check_operators_for(book, operators)
    return written(lines_of_operators(operators))


def steps_text(book, steps):
    """The text of an undoing."""
    if not is_undoing(book, steps):
        raise InvalidOperation("the steps are no undoing of the book")
    return written(lines_of_steps(steps))


def answer_text(book, value):
    """The text of an answer."""
    if not is_answer(book, value):
        raise InvalidOperation("no answer for the book")
    word, found = value
    if word == "undoing":
        return written([(word,), *lines_of_steps(found)])
    return written([(word,), *(lines_of_signs(found) if word == "signs" else lines_of_operators(found))])


def check_text(value):
    """InvalidText unless the value is a text."""
    if not isinstance(value, str) or len(value) > MOST_TEXT:
        raise InvalidText("a text is a string of at most 200,000 signs")
    if any([sign != "\n" and not " " <= sign <= "~" for sign in value]):
        raise InvalidText("a text has printable ASCII signs and line ends alone")


def told_lines(text, reading):
    """What the lines of a text tell, one by one; ParseError with the first line that is wrong, or has no end.

    The reading takes what was told ahead, and a line; it returns None for a line that is not of the form due there.
    """
    *ended, rest = text.split("\n")
    lines = [*ended, rest] if rest else ended
    found = []
    for at, line in enumerate(lines):
        told = reading(found, line)
        if told is None:
            raise ParseError(at)
        found.append(told)
    if rest:
        raise ParseError(len(ended))
    return found


def number_in(part):
    """The number that is written, or None for another part."""
    if not part.isdigit() or len(part) > MOST_DIGITS or (part[0] == "0" and part != "0"):
        return None
    return int(part)


def numbers_behind(line, word):
    """The tuple of the numbers of a line of a word and numbers, or None for another line."""
    first, *parts = line.split(" ")
    found = tuple([number_in(part) for part in parts])
    return found if first == word and None not in found else None


def count_in(line, word, most):
    """The number from 1 to the most of a line of a word and a number, or None for another line."""
    found = numbers_behind(line, word)
    if found is None or len(found) != 1 or not 1 <= found[0] <= most:
        return None
    return found[0]


def saying_in(line, many):
    """The saying of a line, or None for another line."""
    sign = line[-1:]
    if line[-5:-1] != " is " or sign not in ("+", "-"):
        return None
    saying = (numbers_behind(line[:-5], "saying"), int(sign == "-"))
    return saying if is_saying(saying, many) else None


def book_line(found, line):
    """What a line of a text of a book tells behind what was told ahead."""
    if not found:
        return count_in(line, "unknowns", MOST_UNKNOWNS)
    return saying_in(line, found[0]) if len(found) <= MOST_SAYINGS else None


def read_book(text):
    """The book of a text."""
    check_text(text)
    found = told_lines(text, book_line)
    # Without a saying, too, some unknown stands in none.
    if not found or len({e for members, _ in found[1:] for e in members}) < found[0]:
        raise ParseError(len(found))
    return Book(found[0], tuple(found[1:]))


def graph_line(found, line):
    """What a line of a text of a graph tells behind what was told ahead."""
    if not found:
        return count_in(line, "knots", MOST_KNOTS)
    ends = numbers_behind(line, "line")
    fits = ends is not None and len(ends) == 2 and are_ascending(ends, found[0])
    return ends if fits and len(found) <= MOST_LINES else None


def read_graph(text):
    """The graph of a text."""
    check_text(text)
    found = told_lines(text, graph_line)
    if not found:
        raise ParseError(0)
    return Graph(found[0], tuple(found[1:]))


def full(found, many):
    """The tuple of what lines tell; ParseError with their number if they are too few."""
    if len(found) < many:
        raise ParseError(len(found))
    return tuple(found)


def read_turning(graph, text):
    """The turning of a graph of a text."""
    check_graph(graph)
    check_text(text)
    due = [with_knot(graph, knot) for knot in range(graph.many)]

    def turn_line(found, line):
        """The turn of a line, or None if it is none of the knot that is due."""
        turn = numbers_behind(line, "turn")
        fits = turn is not None and len(found) < graph.many and tuple(sorted(turn)) == due[len(found)]
        return turn if fits else None

    return full(told_lines(text, turn_line), graph.many)


def sign_in(found, line, many):
    """The bit of a line of signs, or None for another line, and for one more than there are to be."""
    return int(line == "-") if line in ("+", "-") and len(found) < many else None


def operator_in(found, line, many):
    """The operator of a line, or None for another line, one of another length, and one more than there are to be."""
    if not is_operator(line) or len(found) == many:
        return None
    return line if not found or len(line) == len(found[0]) else None


def step_in(found, line, book):
    """The step of a line of an undoing, or None for another line, and for one more than there are to be."""
    word = line.split(" ")[0]
    numbers = numbers_behind(line, word)
    if numbers is None or len(found) == MOST_STEPS:
        return None
    step = (word, *numbers[:2], numbers[2:]) if word == "put" else (word, *numbers)
    return step if is_step(book, step) else None


def undoing_in(book, lines, found):
    """The steps that lines tell; ParseError with the number of all lines of the text if they are no undoing."""
    if not is_undoing(book, tuple(found)):
        raise ParseError(lines)
    return tuple(found)


def read_signs(book, text):
    """The signs of a text."""
    check_book(book)
    check_text(text)
    return full(told_lines(text, lambda found, line: sign_in(found, line, book.many)), book.many)


def read_operators(book, text):
    """The operators of a text."""
    check_book(book)
    check_text(text)
    return full(told_lines(text, lambda found, line: operator_in(found, line, book.many)), book.many)


def read_steps(book, text):
    """The undoing of a text."""
    check_book(book)
    check_text(text)
    found = told_lines(text, lambda told, line: step_in(told, line, book))
    return undoing_in(book, len(found), found)


def answer_line(book, found, line):
    """What a line of a text of an answer tells behind what was told ahead."""
    if not found:
        return line if line in ("signs", "operators", "undoing") else None
    if found[0] == "undoing":
        return step_in(found[1:], line, book)
    if found[0] == "signs":
        return sign_in(found[1:], line, book.many)
    return operator_in(found[1:], line, book.many)


def read_answer(book, text):
    """The answer of a text."""
    check_book(book)
    check_text(text)
    check_paired(book)
    found = told_lines(text, lambda told, line: answer_line(book, told, line))
    value = (found[0], tuple(found[1:])) if found else ()
    if not is_answer(book, value):
        raise ParseError(len(found))
    return value
