"""Promises [22.1] to [22.6]: texts that are written and read again, and their first wrong lines."""

import re
import unittest
from random import Random
from time import perf_counter

from askedapart.errors import (InvalidBits, InvalidBook, InvalidGraph, InvalidOperation, InvalidOperator, InvalidText, InvalidTurning,
                               ParseError, Refused)
from askedapart.main.answers import answer, is_answer
from askedapart.net.graphs import Graph
from askedapart.say.books import Book, beside
from askedapart.text.texts import (MOST_TEXT, answer_text, book_text, graph_text, operators_text, read_answer, read_book, read_graph,
                                   read_operators, read_signs, read_steps, read_turning, signs_text, steps_text, turning_text)
from book_samples import BOTH, FREE, barred_book, bent, drawn_longer, even_book, planar_book
from graph_samples import (BARE, BARES, BUNDLE, FLAT, FOUR, GRID, LADDER, NAMED, NO_GRAPH, check_errors, random_turning, small_graphs)
from operator_samples import LETTERS, TEN, negated, own_are_right, random_operators
from samples import CHAIN, LARGE, LONG, LONGEST, NOTHING, PENTAGRAM, SQUARE, TRIANGLE, caught, random_paired, small_books
from undoing_samples import LAID, UNDONE, own_is_undoing, with_swaps

CHANCE = Random(22)
NO_BOOK = tuple(value for value in NOTHING if not isinstance(value, Book))
BOOKS = small_books(40, seed=22) + [SQUARE, PENTAGRAM, TRIANGLE, CHAIN, BOTH, LARGE, FREE, Book(1, (((0,), 1),) * 16),
                                    Book(24, ((tuple(range(8)), 1), (tuple(range(8, 16)), 0), (tuple(range(16, 24)), 1)))]
GRAPHS = small_graphs(40, seed=22) + list(NAMED)
NUMBER = "(?:0|[1-9][0-9]*)"


def numbers(line, word):
    """The numbers of a line of a word and numbers, or None."""
    if not re.fullmatch(f"{word}(?: {NUMBER})*", line):
        return None
    return tuple(worth(part) for part in line.split(" ")[1:])


def worth(part):
    """The number of a part; one of so many digits that it is in no text is told as some great one."""
    return int(part) if len(part) < 9 else 10 ** 9


def book_line(context, ahead, line):
    """Whether a line is of the form that is due; a context is nothing here."""
    if not ahead:
        found = numbers(line, "unknowns")
        return found is not None and len(found) == 1 and 1 <= found[0] <= 24
    many = int(ahead[0].split(" ")[1])
    if len(ahead) > 16 or not re.fullmatch(f"saying(?: {NUMBER})+ is [+-]", line):
        return False
    members = [worth(part) for part in line.split(" ")[1:-2]]
    return len(members) <= 8 and members == sorted(set(members)) and max(members) < many


def graph_line(context, ahead, line):
    """The same for graphs."""
    if not ahead:
        found = numbers(line, "knots")
        return found is not None and len(found) == 1 and 1 <= found[0] <= 16
    found = numbers(line, "line")
    return found is not None and len(found) == 2 and found[0] < found[1] < int(ahead[0].split(" ")[1]) and len(ahead) <= 24


def turning_line(graph, ahead, line):
    """The same for turnings."""
    found = numbers(line, "turn")
    if found is None or len(ahead) >= graph.many:
        return False
    return sorted(found) == [at for at, ends in enumerate(graph.lines) if len(ahead) in ends]


def signs_line(book, ahead, line):
    """The same for signs."""
    return line in ("+", "-") and len(ahead) < book.many


def operators_line(book, ahead, line):
    """The same for operators."""
    fits = re.fullmatch("[+-][IXYZ]{1,12}", line) and len(ahead) < book.many
    return bool(fits) and all(len(line) == len(other) for other in ahead[:1])


def steps_line(book, ahead, line):
    """The same for undoings."""
    word = line.split(" ")[0]
    found = numbers(line, re.escape(word))
    if word not in ("put", "cancel", "swap") or not found or found[0] > 200 or len(ahead) >= 4000:
        return False
    if word == "cancel":
        return len(found) == 1
    if len(found) < 2 or found[1] >= len(book.sayings):
        return False
    return len(found) == 2 if word == "swap" else tuple(sorted(found[2:])) == book.sayings[found[1]][0]


def answer_line(book, ahead, line):
    """The same for answers."""
    if not ahead:
        return line in ("signs", "operators", "undoing")
    due = {"signs": signs_line, "operators": operators_line, "undoing": steps_line}[ahead[0]]
    return due(book, ahead[1:], line)


def as_steps(lines):
    """The steps of lines that are all right."""
    found = []
    for line in lines:
        word, *parts = line.split(" ")
        told = [int(part) for part in parts]
        found.append((word, *told[:2], tuple(told[2:])) if word == "put" else (word, *told))
    return tuple(found)


def is_whole(kind, context, lines):
    """Whether lines that are all right are enough."""
    if kind == "book":
        return len(lines) > 1 and {part for line in lines[1:] for part in line.split(" ")[1:-2]} == {str(e) for e in range(int(lines[0].split(" ")[1]))}
    if kind == "graph":
        return len(lines) > 0
    if kind == "turning":
        return len(lines) == context.many
    if kind in ("signs", "operators"):
        return len(lines) == context.many
    if kind == "steps":
        return own_is_undoing(context, as_steps(lines))
    if not lines:
        return False
    word, *rest = lines
    if word == "undoing":
        return own_is_undoing(context, as_steps(rest))
    if len(rest) != context.many:
        return False
    if word == "operators":
        return is_answer(context, ("operators", tuple(rest))) and own_are_right(context, rest)
    return all(sum(rest[e] == "-" for e in members) % 2 == bit for members, bit in context.sayings)


LINES = {"book": book_line, "graph": graph_line, "turning": turning_line, "signs": signs_line, "operators": operators_line,
         "steps": steps_line, "answer": answer_line}
READERS = {"book": read_book, "graph": read_graph, "turning": read_turning, "signs": read_signs, "operators": read_operators,
           "steps": read_steps, "answer": read_answer}
WRITERS = {"book": book_text, "graph": graph_text, "turning": turning_text, "signs": signs_text, "operators": operators_text,
           "steps": steps_text, "answer": answer_text}


def own_wrong(kind, context, text):
    """The index of the first wrong line by the words of [22.4], or None if the text is right."""
    lines = text.split("\n")
    rest = lines.pop()
    every = lines + [rest] if rest else lines
    for at, line in enumerate(every):
        if not LINES[kind](context, every[:at], line):
            return at
    if rest:
        return len(every) - 1
    return None if is_whole(kind, context, every) else len(every)


def told_texts():
    """Triples (kind, context, text) of texts that are written."""
    found = [("book", None, book_text(book)) for book in BOOKS] + [("graph", None, graph_text(graph)) for graph in GRAPHS]
    found += [("turning", graph, turning_text(graph, random_turning(CHANCE, graph))) for graph in GRAPHS]
    for book in BOOKS:
        found.append(("signs", book, signs_text(book, tuple(CHANCE.randrange(2) for _ in range(book.many)))))
        found.append(("operators", book, operators_text(book, random_operators(CHANCE, book.many, CHANCE.randint(1, 12)))))
    paired = [random_paired(CHANCE, 6, 10) for _ in range(20)] + [SQUARE, PENTAGRAM, TRIANGLE, BOTH, LARGE, bent(SQUARE, 0), bent(BOTH, 11),
                                                                  planar_book(CHANCE, 8, 12)[0], even_book(CHANCE, 6, 8), barred_book(CHANCE)]
    for book in paired:
        value = answer(book)
        found.append(("answer", book, answer_text(book, value)))
        if value[0] == "undoing":
            found.append(("steps", book, steps_text(book, value[1])))
            found.append(("steps", book, steps_text(book, with_swaps(CHANCE, value[1]))))
    return found


TEXTS = told_texts()


def bent_texts(text):
    """Texts that are like a text; some of them may be right."""
    lines = text.split("\n")[:-1]
    ended = [f"{line}\n" for line in lines]
    found = [text[:-1], text + "\n", "\n" + text, text + " ", text + ended[-1] if ended else "x", ""]
    for at, line in enumerate(ended):
        found.append("".join(ended[:at] + ended[at + 1:]))
        found.append("".join(ended[:at] + [line] + ended[at:]))
        found.append("".join(ended[:at]))
        found.append("".join(ended[:at]) + line[:CHANCE.randint(0, len(line) - 1)])
        other = CHANCE.randrange(len(ended))
        swapped = list(ended)
        swapped[at], swapped[other] = swapped[other], swapped[at]
        found.append("".join(swapped))
        for worse in (re.sub("([0-9])", r"0\1", line, count=1), line.replace(" ", "  ", 1), " " + line, line[:-1] + " \n", line.upper(), "x" + line, line.replace("+", "*"),
                      line.replace("-", "+"), line.replace("+", "-"), re.sub("[0-9]+", "99", line, count=1), re.sub("[0-9]+$", "", line), line[:-1] + " 0\n", "\n",
                      line.replace("is", "si"), re.sub("([0-9]+) ([0-9]+)", r"\2 \1", line, count=1), re.sub("[0-9]+", "0", line, count=1), line[:-1] + "I\n", line[1:],
                      re.sub("([0-9]+)", "1" * 5000, line, count=1), "turn\n", "line 0 1\n", "saying 0 is +\n", "+\n", "cancel 200\n", "cancel 201\n", "put 0 0 0 1 2\n"):
            found.append("".join(ended[:at] + [worse] + ended[at + 1:]))
    for _ in range(12):
        at = CHANCE.randrange(len(text) + 1)
        found.append(text[:at] + CHANCE.choice("+-0129 \nIXs~") + text[at + CHANCE.randrange(2):])
    return found


class Examples(unittest.TestCase):
    def test_examples(self):
        graph = Graph(3, ((0, 2),))
        self.assertEqual([book_text(TRIANGLE), graph_text(graph), turning_text(graph, ((0,), (), (0,)))],
                         ["unknowns 3\nsaying 0 1 is +\nsaying 0 2 is +\nsaying 1 2 is -\n", "knots 3\nline 0 2\n", "turn 0\nturn\nturn 0\n"])
        self.assertEqual([operators_text(TRIANGLE, ("+X", "-I", "+Y")), read_signs(TRIANGLE, "+\n-\n+\n"),
                          read_book("unknowns 1\nsaying 0 is -\n") == Book(1, (((0,), 1),))], ["+X\n-I\n+Y\n", (0, 1, 0), True])
        self.assertEqual(caught(ParseError, read_book, "unknowns 2\nsaying 0 is +\n").spot, 2)
        self.assertEqual(caught(ParseError, read_graph, "knots 2\nline 1 0\n").spot, 1)

    def test_told_texts(self):
        self.assertEqual(steps_text(TRIANGLE, UNDONE), "put 0 0 0 1\nput 0 1 2 0\ncancel 1\nput 2 2 1 2\ncancel 1\ncancel 0\n")
        even = bent(TRIANGLE, 0)
        self.assertEqual(answer_text(even, ("signs", (1, 0, 1))), "signs\n-\n+\n-\n")
        self.assertEqual(answer_text(SQUARE, ("operators", LETTERS)), "operators\n" + "".join(f"{one}\n" for one in LETTERS))
        self.assertEqual(answer_text(TRIANGLE, ("undoing", UNDONE)), "undoing\n" + steps_text(TRIANGLE, UNDONE))
        self.assertEqual([graph_text(BARE), graph_text(BARES), turning_text(BARE, ((),))], ["knots 1\n", "knots 16\n", "turn\n"])
        three = Book(3, (((0, 1, 2), 0),))
        self.assertEqual(steps_text(Book(3, (((0, 1, 2), 1), ((0, 1, 2), 0))), (("put", 0, 0, (2, 1, 0)), ("swap", 0, 1), ("swap", 0, 0), ("put", 3, 1, (0, 1, 2)),
                                                                              ("cancel", 2), ("cancel", 1), ("cancel", 0))),
                         "put 0 0 2 1 0\nswap 0 1\nswap 0 0\nput 3 1 0 1 2\ncancel 2\ncancel 1\ncancel 0\n")
        self.assertEqual(book_text(three), "unknowns 3\nsaying 0 1 2 is +\n")


class Texts(unittest.TestCase):
    def test_written_and_read_again(self):
        for book in BOOKS:
            self.assertEqual(read_book(book_text(book)), book)
            signs = tuple(CHANCE.randrange(2) for _ in range(book.many))
            self.assertEqual(read_signs(book, signs_text(book, signs)), signs)
            row = random_operators(CHANCE, book.many, CHANCE.choice((1, 2, 12)))
            self.assertEqual(read_operators(book, operators_text(book, row)), row)
        for graph in GRAPHS:
            self.assertEqual(read_graph(graph_text(graph)), graph)
            turning = random_turning(CHANCE, graph)
            self.assertEqual(read_turning(graph, turning_text(graph, turning)), turning)
        for kind, book, text in TEXTS:
            if kind in ("steps", "answer"):
                found = READERS[kind](book, text)
                self.assertEqual(WRITERS[kind](book, found), text)
                self.assertTrue(is_answer(book, found if kind == "answer" else ("undoing", found)))

    def test_read_and_written_again(self):
        for kind, context, text in TEXTS:
            self.assertIsNone(own_wrong(kind, context, text))
            self.assertTrue(text.endswith("\n"))
            more = () if context is None else (context,)
            found = READERS[kind](*more, text)
            self.assertEqual(WRITERS[kind](*more, found), text)

    def test_first_wrong_lines(self):
        seen = {}
        for kind, context, text in CHANCE.sample(TEXTS, 140) + [one for one in TEXTS if one[0] in ("steps", "answer")]:
            more = () if context is None else (context,)
            for value in bent_texts(text):
                wanted = own_wrong(kind, context, value)
                seen[kind, wanted is None] = seen.get((kind, wanted is None), 0) + 1
                if wanted is None:
                    found = READERS[kind](*more, value)
                    self.assertEqual(WRITERS[kind](*more, found), value)
                else:
                    self.assertEqual(caught(ParseError, READERS[kind], *more, value).spot, wanted, (kind, value))
        self.assertEqual(len(seen), 14)
        self.assertGreater(min(seen.values()), 3)

    def test_each_beginning(self):
        for kind, context, text in (("book", None, book_text(SQUARE)), ("graph", None, graph_text(FOUR)), ("turning", FOUR, turning_text(FOUR, FLAT)),
                                    ("signs", TRIANGLE, "+\n-\n+\n"), ("operators", TRIANGLE, "+XI\n-YZ\n+ZZ\n"), ("steps", TRIANGLE, steps_text(TRIANGLE, UNDONE)),
                                    ("answer", SQUARE, answer_text(SQUARE, ("operators", LETTERS))), ("answer", TRIANGLE, answer_text(TRIANGLE, ("undoing", UNDONE)))):
            more = () if context is None else (context,)
            for size in range(len(text)):
                wanted = own_wrong(kind, context, text[:size])
                if wanted is None:
                    self.assertEqual(WRITERS[kind](*more, READERS[kind](*more, text[:size])), text[:size])
                else:
                    self.assertEqual(caught(ParseError, READERS[kind], *more, text[:size]).spot, wanted)

    def test_told_spots(self):
        sixteen = "unknowns 1\n" + "saying 0 is +\n" * 16
        lines = "knots 2\n" + "line 0 1\n" * 24
        steps = steps_text(TRIANGLE, UNDONE)
        for read, text, spot in (
                (read_book, "", 0), (read_book, "\n", 0), (read_book, "unknowns 0\n", 0), (read_book, "unknowns 25\n", 0), (read_book, "unknowns 24\n", 1), (read_book, "unknowns 3", 0),
                (read_book, "unknowns 03\nsaying 0 1 2 is +\n", 0), (read_book, "unknowns 3\nsaying 0 1 2 is +", 1), (read_book, "unknowns 3\nsaying 0 1 2 is +\n\n", 2),
                (read_book, "unknowns 3\nsaying 0 1 3 is +\n", 1), (read_book, "unknowns 3\nsaying 0 2 1 is +\n", 1), (read_book, "unknowns 3\nsaying is +\n", 1),
                (read_book, "unknowns 3\nsaying 0 1 is +\n", 2), (read_book, "unknowns 3\nsaying 0 1 2  is +\n", 1), (read_book, "unknowns 3\nsaying 0 1 2 is *\n", 1),
                (read_book, "unknowns 9\nsaying 0 1 2 3 4 5 6 7 8 is +\n", 1), (read_book, sixteen + "saying 0 is +\n", 17), (read_book, sixteen + "saying 0 is +", 17),
                (read_book, "unknowns 3\nsaying 0 0 is +\n", 1), (read_book, "unknowns 3\nSaying 0 is +\n", 1), (read_book, "unknowns 3 \n", 0), (read_book, "unknowns 3\nsaying 0 1 2 is +\nx", 2),
                (read_book, "unknowns 2\nsaying 0 is +\nsaying 0 is +\n", 3), (read_book, "unknowns " + "1" * 190000, 0), (read_book, "knots 2\n", 0),
                (read_graph, "", 0), (read_graph, "knots 0\n", 0), (read_graph, "knots 17\n", 0), (read_graph, "knots 16", 0), (read_graph, "knots 2\nline 0 1", 1),
                (read_graph, "knots 2\nline 0 2\n", 1), (read_graph, "knots 2\nline 0 0\n", 1), (read_graph, "knots 2\nline 0\n", 1), (read_graph, "knots 2\nline 0 1 1\n", 1),
                (read_graph, lines + "line 0 1\n", 25), (read_graph, "knots 2\nline 0 01\n", 1), (read_graph, "knots 2\n\n", 1)):
            self.assertEqual(caught(ParseError, read, text).spot, spot, text[:60])
        for read, context, text, spot in (
                (read_turning, FOUR, "", 0), (read_turning, FOUR, "turn 0 1 2\n", 1), (read_turning, FOUR, "turn 0 1 3\n", 0), (read_turning, FOUR, "turn 0 1 2 2\n", 0),
                (read_turning, BARE, "turn\nturn\n", 1), (read_turning, BARE, "turn ", 0), (read_turning, BARE, "turn", 0), (read_turning, BARE, "", 0), (read_turning, BARE, "\n", 0),
                (read_signs, TRIANGLE, "+\n-\n", 2), (read_signs, TRIANGLE, "+\n-\n+", 2), (read_signs, TRIANGLE, "+\n-\n+\n+\n", 3), (read_signs, TRIANGLE, "+\n+-\n+\n", 1),
                (read_signs, TRIANGLE, "+\n-\n+\n+", 3), (read_signs, TRIANGLE, "+\n-", 1), (read_signs, TRIANGLE, "+\n0\n", 1), (read_signs, TRIANGLE, "", 0),
                (read_operators, TRIANGLE, "+X\n+XX\n", 1), (read_operators, TRIANGLE, "+X\n+Y\n", 2), (read_operators, TRIANGLE, "+X\n+Y\n+A\n", 2), (read_operators, TRIANGLE, "X\n", 0),
                (read_operators, TRIANGLE, "+" + "X" * 13 + "\n", 0), (read_operators, TRIANGLE, "+X\n+Y\n+Z\n-X\n", 3), (read_operators, TRIANGLE, "+X\n+Y\n+Z", 2), (read_operators, TRIANGLE, "+\n", 0),
                (read_steps, TRIANGLE, "", 0), (read_steps, TRIANGLE, steps[:-1], 5), (read_steps, TRIANGLE, steps + steps, 12), (read_steps, TRIANGLE, "cancel 0\n", 1),
                (read_steps, TRIANGLE, "put 0 3 0 1\n", 0), (read_steps, TRIANGLE, "put 0 0 0 2\n", 0), (read_steps, TRIANGLE, "put 0 0 0\n", 0), (read_steps, TRIANGLE, "put 0 0 0 1 1\n", 0),
                (read_steps, TRIANGLE, "cancel 201\n", 0), (read_steps, TRIANGLE, "cancel 200\n", 1), (read_steps, TRIANGLE, "swap 0 3\n", 0), (read_steps, TRIANGLE, "swap 0 2\n", 1),
                (read_steps, TRIANGLE, "swap 0\n", 0), (read_steps, TRIANGLE, "put 201 0 0 1\n", 0), (read_steps, TRIANGLE, "cancel 0 0\n", 0), (read_steps, TRIANGLE, "put\n", 0),
                (read_answer, TRIANGLE, "", 0), (read_answer, TRIANGLE, "what\n", 0), (read_answer, TRIANGLE, "undoing", 0), (read_answer, TRIANGLE, "undoing\n", 1),
                (read_answer, TRIANGLE, "signs\n+\n+\n+\n", 4), (read_answer, TRIANGLE, "signs\n+\n+\n", 3), (read_answer, TRIANGLE, "signs\n+\n+\n+\n+\n", 4), (read_answer, TRIANGLE, "operators\n+X\n+X\n", 3),
                (read_answer, TRIANGLE, "operators\n+X\n+X\n+XX\n", 3), (read_answer, bent(TRIANGLE, 2), "operators\n+X\n+X\n+X\n", 4), (read_answer, TRIANGLE, "undoing\n" + steps + "cancel 0\n", 8),
                (read_answer, TRIANGLE, "undoing \n" + steps, 0), (read_answer, TRIANGLE, "undoing\n" + steps[:-1], 6)):
            self.assertEqual(caught(ParseError, read, context, text).spot, spot, text[:60])

    def test_any_answer_that_its_judge_takes(self):
        for value in (("operators", LETTERS), ("operators", tuple(one + "I" * 10 for one in LETTERS)), ("operators", tuple(one[0] + one[2] + one[1] for one in LETTERS))):
            if is_answer(SQUARE, value):
                self.assertEqual(read_answer(SQUARE, answer_text(SQUARE, value)), value)
        value = ("undoing", UNDONE * 3)
        self.assertEqual(read_answer(TRIANGLE, answer_text(TRIANGLE, value)), value)
        # Operators where signs are right are no answer, and so are none of a text.
        even = beside(bent(TRIANGLE, 0), bent(TRIANGLE, 0))
        plain = answer_text(even, answer(even)).replace("signs", "operators").replace("+\n", "+I\n").replace("-\n", "-I\n")
        self.assertEqual(caught(ParseError, read_answer, even, plain).spot, 7)
        caught(InvalidOperation, answer_text, even, ("operators", tuple(plain.split("\n")[1:-1])))


class Bounds(unittest.TestCase):
    def test_no_texts(self):
        for read, more in ((read_book, ()), (read_graph, ()), (read_turning, (FOUR,)), (read_signs, (SQUARE,)), (read_operators, (SQUARE,)), (read_steps, (SQUARE,)),
                           (read_answer, (SQUARE,))):
            for value in (*[one for one in NOTHING if not isinstance(one, str) or len(one) > MOST_TEXT], "+" * 200001, "\n" * 200001, "\t", "a\tb\n", "\x7f", "\r\n", "\x00", "\u00e9", b"+\n",
                          "unknowns 1\r\nsaying 0 is +\r\n", "\x1f", ["unknowns 1"]):
                caught(InvalidText, read, *more, value)
            for value in ("+" * 200000, "\n" * 200000, " ", "~", " " * 200000, "x" * 199999 + "\n"):
                self.assertEqual(caught(ParseError, read, *more, value).spot, 0)

    def test_long_texts(self):
        begun = perf_counter()
        self.assertEqual(caught(ParseError, read_signs, LARGE, "+\n" * 100000).spot, 24)
        self.assertEqual(caught(ParseError, read_operators, LARGE, "+X\n" * 60000).spot, 24)
        self.assertEqual(caught(ParseError, read_steps, TRIANGLE, "cancel 0\n" * 22222).spot, 4000)
        self.assertEqual(caught(ParseError, read_answer, TRIANGLE, "undoing\n" + "cancel 0\n" * 22000).spot, 4001)
        self.assertEqual(caught(ParseError, read_steps, TRIANGLE, "cancel 0\n" * 4000).spot, 4000)
        self.assertEqual(caught(ParseError, read_steps, TRIANGLE, "cancel 0\n" * 3999 + "cancel 0").spot, 3999)
        self.assertEqual(caught(ParseError, read_book, "unknowns 1\n" + "saying 0 is +\n" * 14000).spot, 17)
        self.assertEqual(caught(ParseError, read_graph, "knots 2\n" + "line 0 1\n" * 20000).spot, 25)
        self.assertLess(perf_counter() - begun, 4)

    def test_long_undoings(self):
        # As many steps as can be: undoings put one behind the other an odd number of times.
        begun = perf_counter()
        steps = UNDONE * 665
        self.assertTrue(len(steps) == 3990 and own_is_undoing(TRIANGLE, steps))
        text = steps_text(TRIANGLE, steps)
        self.assertEqual(read_steps(TRIANGLE, text), steps)
        self.assertEqual(read_answer(TRIANGLE, answer_text(TRIANGLE, ("undoing", steps))), ("undoing", steps))
        swaps = (LAID[0], *(("swap", 0, 0),) * 3994, *LAID[1:], ("cancel", 1), ("cancel", 0))
        self.assertEqual(len(swaps), 4000)
        self.assertEqual(read_steps(TRIANGLE, steps_text(TRIANGLE, swaps)), swaps)
        self.assertEqual(caught(ParseError, read_steps, TRIANGLE, steps_text(TRIANGLE, swaps) + "cancel 0\n").spot, 4000)
        caught(InvalidOperation, steps_text, TRIANGLE, (swaps[0], ("swap", 0, 0), ("swap", 0, 0), *swaps[1:]))
        self.assertLess(perf_counter() - begun, 4)

    def test_books_and_graphs_at_the_bounds(self):
        full = Book(24, tuple((tuple(range(8 * (k % 3), 8 * (k % 3) + 8)), k % 2) for k in range(16)))
        for book in (full, LARGE, FREE, drawn_longer(CHANCE, PENTAGRAM, 11)):
            self.assertEqual(read_book(book_text(book)), book)
        for graph in (GRID, LADDER, BUNDLE, BARES):
            self.assertEqual(read_graph(graph_text(graph)), graph)
            turning = random_turning(CHANCE, graph)
            self.assertEqual(read_turning(graph, turning_text(graph, turning)), turning)


class NoneOfTheseIsTrue(unittest.TestCase):
    def test_a_line_left_out(self):
        lines = book_text(TRIANGLE).split("\n")
        self.assertEqual(read_book("\n".join(lines[:1] + lines[2:])), Book(3, TRIANGLE.sayings[1:]))
        self.assertEqual(caught(ParseError, read_book, "\n".join(lines[1:])).spot, 0)
        chain = book_text(CHAIN).split("\n")
        self.assertEqual(caught(ParseError, read_book, "\n".join(chain[:1] + chain[2:])).spot, 3)

    def test_beginnings_of_a_graph(self):
        text = graph_text(FOUR)
        fine = [size for size in range(len(text)) if own_wrong("graph", None, text[:size]) is None]
        self.assertEqual([text[size - 1] for size in fine], ["\n"] * 6)
        self.assertEqual(caught(ParseError, read_graph, text[:-1]).spot, 6)

    def test_signs_and_operators_that_are_not_right(self):
        self.assertEqual(read_signs(TRIANGLE, "+\n+\n+\n"), (0, 0, 0))
        wrong = tuple(negated(operator) for operator in LETTERS)
        self.assertEqual(read_operators(SQUARE, operators_text(SQUARE, wrong)), wrong)
        self.assertFalse(own_are_right(SQUARE, wrong))


class WrongArguments(unittest.TestCase):
    def test_wrong_arguments(self):
        book, graph = {0: (InvalidBook, NO_BOOK)}, {0: (InvalidGraph, NO_GRAPH)}
        no_text = (InvalidText, (None, True, 0, (), [], {}, ("+\n",), "\t", "+" * 200001, LONG, LONGEST, SQUARE))
        signs, steps = signs_text(SQUARE, (0,) * 9), steps_text(TRIANGLE, UNDONE)
        for call, good, bad in (
                (book_text, (SQUARE,), book), (read_book, (book_text(SQUARE),), {0: no_text}), (graph_text, (FOUR,), graph), (read_graph, (graph_text(FOUR),), {0: no_text}),
                (turning_text, (FOUR, FLAT), {**graph, 1: (InvalidTurning, (*NOTHING, FLAT[:3], list(FLAT), (*FLAT[:3], (2, 5))))}),
                (read_turning, (FOUR, turning_text(FOUR, FLAT)), {**graph, 1: no_text}),
                (signs_text, (SQUARE, (0,) * 9), {**book, 1: (InvalidBits, (*NOTHING, (0,) * 8, [0] * 9, (True,) * 9, (2,) * 9, "0" * 9))}),
                (read_signs, (SQUARE, signs), {**book, 1: no_text}),
                (operators_text, (SQUARE, LETTERS), {**book, 1: (InvalidOperator, (*NOTHING, LETTERS[1:], list(LETTERS), (*LETTERS[1:], "+X"), TEN))}),
                (read_operators, (SQUARE, operators_text(SQUARE, LETTERS)), {**book, 1: no_text}),
                (steps_text, (TRIANGLE, UNDONE), {**book, 1: (InvalidOperation, (*NOTHING, UNDONE[1:], list(UNDONE), UNDONE * 2, LAID, ("undoing", UNDONE), UNDONE * 667))}),
                (read_steps, (TRIANGLE, steps), {**book, 1: no_text}),
                (answer_text, (SQUARE, ("operators", LETTERS)), {**book, 1: (InvalidOperation, (*NOTHING, LETTERS, ("operators", LETTERS[1:]), ("undoing", ()), ("signs", (0,) * 9),
                                                                                                 ["operators", LETTERS], ("operators", LETTERS, ())))}),
                (read_answer, (TRIANGLE, "undoing\n" + steps), {**book, 1: no_text})):
            check_errors(call, good, bad)

    def test_books_that_are_not_paired(self):
        for book in (CHAIN, Book(1, (((0,), 1),)), beside(TRIANGLE, CHAIN)):
            for value in (None, ("signs", (0,) * book.many), LONGEST):
                self.assertEqual(caught(Refused, answer_text, book, value).reason, ("pairs",))
            for text in ("", "what", "signs\n", "signs\n" + "+\n" * book.many):
                self.assertEqual(caught(Refused, read_answer, book, text).reason, ("pairs",))
            caught(InvalidText, read_answer, book, None)
            caught(InvalidText, read_answer, book, "\t")
            self.assertEqual(read_signs(book, "+\n" * book.many), (0,) * book.many)
            self.assertEqual(caught(ParseError, read_steps, book, "").spot, 0)

    def test_nothing_is_changed_and_equal_calls_return_equal_results(self):
        for kind, context, text in TEXTS[::9]:
            more = () if context is None else (context,)
            self.assertEqual(READERS[kind](*more, text), READERS[kind](*more, text))


if __name__ == "__main__":
    unittest.main()
