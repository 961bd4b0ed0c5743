"""Promises [23.1] to [23.5]: a bench, its deeds, what is undone and done again, and what is led along."""

import unittest
from random import Random
from time import perf_counter

from askedapart.bench.bench import MOST_DEEDS, Bench, led_operators, led_signs
from askedapart.errors import InvalidBits, InvalidBook, InvalidOperation, InvalidOperator, NothingToUndo, Refused, TooMany
from askedapart.main.answers import answer, is_answer, kinds
from askedapart.say.books import Book, beside, is_paired, piece_book, pieces
from askedapart.say.signs import sign_count
from askedapart.sign.answers import is_operators_or_bar, operators_or_bar, table_count
from book_samples import BOTH, FREE, WIDER, barred_book, bent, even_book, hidden, planar_book, split
from graph_samples import check_errors
from operator_samples import LETTERS, TEN, negated, own_are_right, random_operators
from samples import CHAIN, LARGE, LONG, LONGEST, NOTHING, PENTAGRAM, SQUARE, TRIANGLE, all_bits, caught, deep, random_paired, small_books

CHANCE = Random(23)
NO_BOOK = tuple(value for value in NOTHING if not isinstance(value, Book))
LED = ("turn", "split", "names", "sequence", "piece")
SMALL = small_books(60, seed=23) + [random_paired(CHANCE, 5, 7) for _ in range(30)] + [TRIANGLE, CHAIN, beside(TRIANGLE, bent(TRIANGLE, 0))]
PAIRED = [random_paired(CHANCE, 7, 10) for _ in range(25)] + [SQUARE, PENTAGRAM, TRIANGLE, BOTH, beside(TRIANGLE, bent(TRIANGLE, 1)), barred_book(CHANCE, drawn=2),
                                                             planar_book(CHANCE, 6, 9)[0], even_book(CHANCE, 6, 8)]
HIDDEN = [hidden(CHANCE, CHANCE.randint(1, 3), CHANCE.randint(1, 4), CHANCE.randint(1, 6)) for _ in range(20)] + [
    (SQUARE, LETTERS), (PENTAGRAM, TEN), (WIDER, (*LETTERS, "+II", "+II")), (beside(SQUARE, bent(TRIANGLE, 0)), (*LETTERS, "+II", "-II", "+II"))]
NO_DEEDS = (*NOTHING, ("turn",), ("turn", -1), ("turn", 99), ("turn", True), ("turn", None), ("turn", LONG), ("turn", (0,)), ("turn", 0, 0), ["turn", 0], ("TURN", 0),
            ("bit",), ("bit", 99), ("bit", True), ("bit", -1), ("bit", [0]), ("bit", 0, 0), ("split", 0, 0), ("split", 0, 0, 2), ("split", 0, 0, True), ("split", 0, 0, None),
            ("split", 99, 0, 0), ("split", 0, 99, 0), ("split", True, 0, 0), ("split", 0, False, 0), ("split", 0, 0, 0, 0), ("names",), ("names", None), ("names", (0,)), ("names", ()),
            ("names", (0, 1, 1)), ("names", [0, 1, 2]), ("names", (0, 1, True)), ("names", (0, 1, 3)), ("names", (0, 1, 2), ()), ("sequence", (0, 1)), ("sequence", (0, 1, 2, 3)),
            ("sequence", (2, 2, 0)), ("sequence", [2, 1, 0]), ("sequence", LONGEST), ("sequence", "012"), ("beside",), ("beside", None), ("beside", 3, ()), ("beside", (TRIANGLE,)),
            ("beside", TRIANGLE, TRIANGLE), ("piece",), ("piece", 1), ("piece", -1), ("piece", False), ("piece", (0,)), ("saying", (0,)), ("saying", (), 0), ("saying", (0, 3), 0),
            ("saying", (1, 0), 0), ("saying", (0, 0), 0), ("saying", [0], 0), ("saying", (0,), 2), ("saying", (0,), True), ("saying", ((0,), 0)), ("saying", (0,), 0, 0), ("what", 0), (TRIANGLE, 0),
            (["turn"], 0), deep(("turn", 0), 5, tuple))


def own_behind(book, deed):
    """By the words of [23.1]: the book, or the number of which there are too many."""
    word, *more = deed
    sayings = [(list(members), bit) for members, bit in book.sayings]
    many = book.many
    if word == "turn":
        sayings = [(members, bit ^ (more[0] in members)) for members, bit in sayings]
    elif word == "bit":
        sayings[more[0]] = (sayings[more[0]][0], 1 - sayings[more[0]][1])
    elif word == "split":
        e, s, bit = more
        members, old = sayings[s]
        sayings[s] = ([many if f == e else f for f in members], (old + bit) % 2)
        sayings.append(([e, many], bit))
        many += 1
    elif word == "names":
        number = {e: k for k, e in enumerate(more[0])}
        sayings = [([number[e] for e in members], bit) for members, bit in sayings]
    elif word == "sequence":
        sayings = [sayings[s] for s in more[0]]
    elif word == "beside":
        sayings += [([many + e for e in members], bit) for members, bit in more[0].sayings]
        many += more[0].many
    elif word == "piece":
        sayings = [sayings[s] for s in pieces(book)[more[0]]]
        left = sorted({e for members, _ in sayings for e in members})
        sayings = [([left.index(e) for e in members], bit) for members, bit in sayings]
        many = len(left)
    else:
        sayings.append((list(more[0]), more[1]))
    if many > 24:
        return 24
    if len(sayings) > 16:
        return 16
    return Book(many, tuple((tuple(sorted(members)), bit) for members, bit in sayings))


def own_led(book, deed, values, turn):
    """By the words of [23.2]."""
    word, *more = deed
    if word == "turn":
        return tuple(turn(value) if e == more[0] else value for e, value in enumerate(values))
    if word == "split":
        e, _, bit = more
        return (*values, turn(values[e]) if bit else values[e])
    if word == "names":
        return tuple(values[e] for e in more[0])
    if word == "piece":
        members = {e for s in pieces(book)[more[0]] for e in book.sayings[s][0]}
        return tuple(value for e, value in enumerate(values) if e in members)
    return tuple(values)


def some_deed(book, words):
    """Whatever deed that fits."""
    word = CHANCE.choice(words)
    if word == "turn":
        return (word, CHANCE.randrange(book.many))
    if word == "bit":
        return (word, CHANCE.randrange(len(book.sayings)))
    if word == "split":
        s = CHANCE.randrange(len(book.sayings))
        return (word, CHANCE.choice(book.sayings[s][0]), s, CHANCE.randrange(2))
    if word == "names":
        return (word, tuple(CHANCE.sample(range(book.many), book.many)))
    if word == "sequence":
        return (word, tuple(CHANCE.sample(range(len(book.sayings)), len(book.sayings))))
    if word == "beside":
        return (word, CHANCE.choice([TRIANGLE, CHAIN, bent(TRIANGLE, 0), SQUARE, PENTAGRAM]))
    if word == "piece":
        return (word, CHANCE.randrange(len(pieces(book))))
    return (word, tuple(sorted(CHANCE.sample(range(book.many), CHANCE.randint(1, min(8, book.many))))), CHANCE.randrange(2))


ALL = ("turn", "bit", "split", "names", "sequence", "beside", "piece", "saying")


def own_right(book, signs):
    """Whether signs are right."""
    return all(sum(signs[e] for e in members) % 2 == bit for members, bit in book.sayings)


def kinds_by_sayings(book, moved=None):
    """The kind of each saying's piece, sayings being told by the places to which they come."""
    told = {}
    for kind, lot in zip(kinds(book), pieces(book)):
        for s in lot:
            told[s if moved is None else moved.index(s)] = kind
    return told


class Examples(unittest.TestCase):
    def test_examples(self):
        bench = Bench(TRIANGLE)
        for deed in (("turn", 1), ("split", 0, 1, 1)):
            self.assertIsNone(bench.do(deed))
        self.assertEqual([bench.book.sayings, str(bench), bench.kinds()],
                         [(((0, 1), 1), ((2, 3), 1), ((1, 2), 0), ((0, 3), 1)), "bench of 4 unknowns, 4 sayings, 2 deeds", ("planar",)])
        self.assertEqual([led_signs(SQUARE, ("turn", 0), (0,) * 9)[:2], led_operators(TRIANGLE, ("split", 0, 1, 1), ("+X", "+Y", "-Z"))],
                         [(1, 0), ("+X", "+Y", "-Z", "-X")])
        caught(InvalidOperation, bench.do, ("names", (0, 1, 2)))


class Deeds(unittest.TestCase):
    def test_each_deed(self):
        seen = set()
        for book in SMALL + PAIRED:
            for word in ALL:
                for _ in range(3):
                    deed = some_deed(book, (word,))
                    bench = Bench(book)
                    wanted = own_behind(book, deed)
                    if isinstance(wanted, Book):
                        bench.do(deed)
                        self.assertEqual([bench.book, bench.deeds], [wanted, (deed,)])
                        seen.add(word)
                    else:
                        self.assertEqual(caught(TooMany, bench.do, deed).limit, wanted)
                        self.assertEqual([bench.book, bench.deeds], [book, ()])
                        seen.add(wanted)
        self.assertTrue(set(ALL) <= seen)

    def test_told_deeds(self):
        chain = Bench(CHAIN)
        for deed, sayings in ((("names", (2, 0, 1)), (((1, 2), 1), ((0, 2), 0), ((0,), 1))), (("sequence", (2, 0, 1)), (((0,), 1), ((1, 2), 1), ((0, 2), 0))),
                              (("bit", 0), (((0,), 0), ((1, 2), 1), ((0, 2), 0))), (("saying", (0, 1, 2), 1), (((0,), 0), ((1, 2), 1), ((0, 2), 0), ((0, 1, 2), 1))),
                              (("split", 2, 1, 0), (((0,), 0), ((1, 3), 1), ((0, 2), 0), ((0, 1, 2), 1), ((2, 3), 0))),
                              (("beside", Book(1, (((0,), 1),))), (((0,), 0), ((1, 3), 1), ((0, 2), 0), ((0, 1, 2), 1), ((2, 3), 0), ((4,), 1))), (("piece", 1), (((0,), 1),))):
            chain.do(deed)
            self.assertEqual(chain.book.sayings, sayings)
        self.assertEqual([len(chain.deeds), str(chain)], [7, "bench of 1 unknowns, 1 sayings, 7 deeds"])
        for _ in range(7):
            chain.undo()
        self.assertEqual([chain.book == CHAIN, chain.deeds, str(chain)], [True, (), "bench of 3 unknowns, 3 sayings, 0 deeds"])

    def test_what_is_refused_changes_nothing(self):
        bench = Bench(TRIANGLE)
        bench.do(("turn", 0))
        bench.do(("bit", 2))
        bench.undo()
        for value in NO_DEEDS:
            caught(InvalidOperation, bench.do, value)
            self.assertEqual([bench.book, bench.deeds, str(bench)], [own_behind(TRIANGLE, ("turn", 0)), (("turn", 0),), "bench of 3 unknowns, 3 sayings, 1 deeds"])
        wide = Bench(LARGE)
        wide.do(("turn", 0))
        wide.undo()
        for deed, limit in ((("split", 0, 0, 0), 24), (("saying", (0,), 1), 16), (("beside", TRIANGLE), 24)):
            self.assertEqual(caught(TooMany, wide.do, deed).limit, limit)
            self.assertEqual([wide.book, wide.deeds], [LARGE, ()])
        # What was undone can still be done again.
        bench.again()
        wide.again()
        self.assertEqual([bench.deeds, wide.deeds], [(("turn", 0), ("bit", 2)), (("turn", 0),)])

    def test_bounds_of_books(self):
        full = Book(8, (((0, 1, 2, 3, 4, 5, 6, 7), 1),) * 16)
        for deed, limit in ((("split", 0, 3, 1), 16), (("saying", (0, 1), 0), 16), (("beside", Book(1, (((0,), 0),))), 16), (("beside", Book(17, (((0,), 0), *(((e,), 0) for e in range(1, 9)),
                            *(((e, e + 1), 0) for e in range(9, 16, 2)), ((15, 16), 1)))), 24)):
            self.assertEqual(caught(TooMany, Bench(full).do, deed).limit, limit)
        less = Book(23, (*(((e, e + 1), 0) for e in range(0, 22, 2)), ((21, 22), 1)))
        bench = Bench(less)
        bench.do(("split", 22, 11, 0))
        self.assertEqual([bench.book.many, len(bench.book.sayings)], [24, 13])
        self.assertEqual(caught(TooMany, bench.do, ("split", 22, 12, 0)).limit, 24)
        for _ in range(3):
            bench.do(("saying", (0,), 0))
        self.assertEqual(caught(TooMany, bench.do, ("saying", (0,), 0)).limit, 16)
        self.assertEqual(caught(TooMany, bench.do, ("split", 0, 0, 0)).limit, 24)

    def test_undone_and_done_again(self):
        bench = Bench(SQUARE)
        self.assertEqual([caught(NothingToUndo, bench.undo).done, caught(NothingToUndo, bench.again).done], [0, 0])
        bench.do(("turn", 1))
        bench.do(("bit", 0))
        self.assertEqual(caught(NothingToUndo, bench.again).done, 2)
        bench.undo()
        bench.undo()
        self.assertEqual(caught(NothingToUndo, bench.undo).done, 0)
        bench.again()
        self.assertEqual(bench.deeds, (("turn", 1),))
        bench.do(("bit", 3))
        self.assertEqual(caught(NothingToUndo, bench.again).done, 2)
        self.assertEqual(bench.deeds, (("turn", 1), ("bit", 3)))
        bench.undo()
        self.assertIsNone(bench.again())
        self.assertIsNone(bench.undo())
        self.assertEqual(bench.deeds, (("turn", 1),))

    def test_whatever_is_done(self):
        for book in [TRIANGLE, SQUARE, CHAIN, BOTH, *PAIRED[:6], *SMALL[:6]]:
            bench, done, undone = Bench(book), [], []
            for _ in range(60):
                chosen = CHANCE.choice(("do", "do", "do", "undo", "undo", "again"))
                now = done[-1][1] if done else book
                if chosen == "do":
                    deed = some_deed(now, ALL)
                    behind = own_behind(now, deed)
                    if isinstance(behind, Book):
                        bench.do(deed)
                        done.append((deed, behind))
                        undone = []
                    else:
                        self.assertEqual(caught(TooMany, bench.do, deed).limit, behind)
                elif chosen == "undo" and done:
                    bench.undo()
                    undone.append(done.pop())
                elif chosen == "again" and undone:
                    bench.again()
                    done.append(undone.pop())
                elif chosen != "do":
                    self.assertEqual(caught(NothingToUndo, getattr(bench, chosen)).done, len(done))
                now = done[-1][1] if done else book
                self.assertEqual([bench.book, bench.deeds], [now, tuple(deed for deed, _ in done)])
                self.assertEqual(str(bench), f"bench of {now.many} unknowns, {len(now.sayings)} sayings, {len(done)} deeds")
            self.as_from_nothing(bench)

    def as_from_nothing(self, bench):
        """Whether the bench tells what one tells that is made anew."""
        other = Bench(bench.book)
        if is_paired(bench.book):
            self.assertEqual([bench.kinds(), bench.answer()], [other.kinds(), other.answer()])
            self.assertEqual([bench.kinds(), bench.answer()], [kinds(bench.book), answer(bench.book)])
            self.assertIs(is_answer(bench.book, bench.answer()), True)
        else:
            for call in (bench.kinds, bench.answer, other.kinds):
                self.assertEqual(caught(Refused, call).reason, ("pairs",))

    def test_two_hundred_deeds(self):
        begun = perf_counter()
        bench = Bench(SQUARE)
        for k in range(MOST_DEEDS):
            bench.do(("turn", k % 9))
        self.assertEqual([len(bench.deeds), MOST_DEEDS], [200, 200])
        self.assertEqual(caught(TooMany, bench.do, ("turn", 0)).limit, 200)
        # What does not fit comes ahead of too many deeds, these ahead of all other ones.
        caught(InvalidOperation, bench.do, ("turn", 9))
        self.assertEqual(caught(TooMany, bench.do, ("beside", LARGE)).limit, 200)
        bench.undo()
        self.assertEqual(caught(TooMany, bench.do, ("beside", LARGE)).limit, 24)
        bench.again()
        self.assertEqual(caught(NothingToUndo, bench.again).done, 200)
        for _ in range(200):
            bench.undo()
        self.assertEqual([bench.book, caught(NothingToUndo, bench.undo).done], [SQUARE, 0])
        for _ in range(200):
            bench.again()
        self.assertEqual(len(bench.deeds), 200)
        self.assertLess(perf_counter() - begun, 2)

    def test_benches_do_not_share_state(self):
        one, other = Bench(TRIANGLE), Bench(TRIANGLE)
        one.do(("bit", 0))
        self.assertEqual([other.book, other.deeds, one.book == other.book], [TRIANGLE, (), False])
        told = one.deeds
        one.do(("bit", 1))
        self.assertEqual([told, len(one.deeds)], [(("bit", 0),), 2])
        self.assertNotEqual(one, None)
        self.assertTrue(one == one and one != other)
        for name in ("book", "deeds"):
            with self.assertRaises(AttributeError):
                setattr(one, name, None)
        with self.assertRaises(TypeError):
            iter(one)
        for book in NO_BOOK:
            caught(InvalidBook, Bench, book)


class Led(unittest.TestCase):
    def test_signs_exactly_as_told(self):
        for book in [book for book in SMALL if book.many <= 6]:
            right = {signs for signs in all_bits(book.many) if own_right(book, signs)}
            for word in LED:
                deed = some_deed(book, (word,))
                behind = own_behind(book, deed)
                found = {signs: led_signs(book, deed, signs) for signs in all_bits(book.many)}
                for signs, led in found.items():
                    self.assertEqual(led, own_led(book, deed, signs, lambda bit: 1 - bit))
                    if word == "piece":
                        self.assertTrue(own_right(behind, led) or signs not in right)
                    else:
                        self.assertEqual(own_right(behind, led), signs in right)
                if word != "piece":
                    self.assertEqual({signs for signs in all_bits(behind.many) if own_right(behind, signs)}, {found[signs] for signs in right})
                    self.assertEqual(sign_count(behind), sign_count(book))

    def test_operators_exactly_as_told(self):
        judged = set()
        for book, right in HIDDEN:
            for word in LED:
                deed = some_deed(book, (word,))
                behind = own_behind(book, deed)
                if not isinstance(behind, Book):
                    continue
                at = CHANCE.randrange(book.many)
                worse = random_operators(CHANCE, 1, len(right[0]) - 1)[0]
                for value in (right, (*right[:at], negated(right[at]), *right[at + 1:]), (*right[:at], worse, *right[at + 1:]), random_operators(CHANCE, book.many, 12)):
                    led = led_operators(book, deed, value)
                    self.assertEqual(led, own_led(book, deed, value, negated))
                    was = own_are_right(book, value)
                    judged.add((word, was))
                    if word == "piece":
                        self.assertTrue(own_are_right(behind, led) or not was)
                    else:
                        self.assertEqual(own_are_right(behind, led), was)
        self.assertEqual(len(judged), 10)

    def test_numbers_of_right_tables_stay(self):
        for book in [book for book, _ in HIDDEN] + [bent(SQUARE, 0), TRIANGLE, bent(TRIANGLE, 0), FREE]:
            for word in ("turn", "split", "names", "sequence"):
                behind = own_behind(book, some_deed(book, (word,)))
                if isinstance(behind, Book):
                    self.assertEqual(table_count(behind), table_count(book))

    def test_led_along_a_bench(self):
        for book, right in ((SQUARE, LETTERS), (PENTAGRAM, TEN), (beside(SQUARE, bent(TRIANGLE, 0)), (*LETTERS, "+II", "-II", "+II"))):
            bench, now = Bench(book), right
            for _ in range(30):
                deed = some_deed(bench.book, ("turn", "split", "names", "sequence"))
                if isinstance(own_behind(bench.book, deed), Book):
                    now = led_operators(bench.book, deed, now)
                    bench.do(deed)
                    self.assertTrue(own_are_right(bench.book, now))
            self.assertIs(is_operators_or_bar(bench.book, ("operators", now)), True)

    def test_too_many(self):
        signs, row = (0,) * 24, ("+X",) * 24
        for call, values in ((led_signs, signs), (led_operators, row)):
            self.assertEqual(caught(TooMany, call, LARGE, ("split", 0, 0, 1), values).limit, 24)
            full = Book(8, (((0, 1, 2, 3, 4, 5, 6, 7), 1),) * 16)
            self.assertEqual(caught(TooMany, call, full, ("split", 0, 0, 1), values[:8]).limit, 16)
            self.assertEqual(call(full, ("sequence", tuple(range(15, -1, -1))), values[:8]), values[:8])


class Kinds(unittest.TestCase):
    def test_kinds_by_deeds(self):
        seen = set()
        for book in PAIRED:
            before = kinds_by_sayings(book)
            for word in ("turn", "names", "split", "sequence", "bit", "beside", "piece"):
                deed = some_deed(book, (word,)) if word != "beside" else (word, CHANCE.choice([TRIANGLE, bent(TRIANGLE, 0)]))
                bench = Bench(book)
                if not isinstance(own_behind(book, deed), Book):
                    continue
                bench.do(deed)
                after = dict(zip([lot for lot in pieces(bench.book)], bench.kinds()))
                told = {s: kind for lot, kind in after.items() for s in lot}
                if word == "sequence":
                    self.assertEqual(told, kinds_by_sayings(book, deed[1]))
                elif word == "split":
                    self.assertEqual(told, {**before, len(book.sayings): before[deed[2]]})
                elif word in ("turn", "names"):
                    self.assertEqual(told, before)
                elif word == "beside":
                    self.assertEqual(bench.kinds(), kinds(book) + kinds(deed[1]))
                elif word == "piece":
                    self.assertEqual(bench.kinds(), (kinds(book)[deed[1]],))
                else:
                    lot = [lot for lot in pieces(book) if deed[1] in lot][0]
                    self.assertEqual({s: kind for s, kind in told.items() if s not in lot}, {s: kind for s, kind in before.items() if s not in lot})
                    self.assertEqual((before[deed[1]] == "even") + (told[deed[1]] == "even"), 1)
                    seen.add((before[deed[1]], told[deed[1]]))
                    bench.do(deed)
                    self.assertEqual(kinds_by_sayings(bench.book), before)
        self.assertTrue({("even", "planar"), ("planar", "even"), ("barred", "even")} <= seen)
        self.assertEqual(kinds(own_behind(bent(SQUARE, 0), ("bit", 3))), ("barred",))


class NoneOfTheseIsTrue(unittest.TestCase):
    def test_no_more_right_signs_by_split(self):
        for book in SMALL[:20]:
            behind = own_behind(book, some_deed(book, ("split",)))
            self.assertEqual(sign_count(behind), sign_count(book))
            self.assertEqual(split(CHAIN, 0, 0, 1), own_behind(CHAIN, ("split", 0, 0, 1)))

    def test_operators_that_do_not_stay_right_beside(self):
        self.assertEqual([operators_or_bar(SQUARE)[0], operators_or_bar(own_behind(SQUARE, ("beside", TRIANGLE)))[0]], ["operators", "barred"])

    def test_another_number_of_right_tables_by_bit(self):
        self.assertEqual([table_count(TRIANGLE), table_count(own_behind(TRIANGLE, ("bit", 0)))], [0, 1])


class WrongArguments(unittest.TestCase):
    def test_wrong_arguments(self):
        book = {0: (InvalidBook, NO_BOOK)}
        # Deeds that fit, but by which nothing is led.
        deeds = (*NO_DEEDS, ("bit", 0), ("beside", TRIANGLE), ("saying", (0, 1), 1))
        signs = {**book, 1: (InvalidOperation, deeds), 2: (InvalidBits, (*NOTHING, (0, 0), (0,) * 4, [0, 0, 0], (0, 0, 2), (0, 0, True), "000"))}
        operators = {**book, 1: (InvalidOperation, deeds), 2: (InvalidOperator, (*NOTHING, ("+X",) * 2, ("+X",) * 4, ["+X"] * 3, ("+X", "+X", "+XX"), ("+X", "+X", None), "+XX"))}
        for deed in (("turn", 0), ("split", 0, 0, 1), ("names", (2, 1, 0)), ("sequence", (0, 2, 1)), ("piece", 0)):
            check_errors(led_signs, (TRIANGLE, deed, (0, 0, 0)), signs)
            check_errors(led_operators, (TRIANGLE, deed, ("+X", "+Y", "+Z")), operators)

    def test_nothing_is_changed(self):
        for book in PAIRED[:6]:
            sayings = book.sayings
            bench = Bench(book)
            bench.do(("turn", 0))
            bench.undo()
            self.assertEqual([book.sayings, bench.book, piece_book(book, 0) is None], [sayings, book, False])
            self.assertEqual(bench.answer(), bench.answer())


if __name__ == "__main__":
    unittest.main()
