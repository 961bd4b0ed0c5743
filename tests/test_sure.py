"""Promises [19.1] to [19.6], and the main statement [0.21]: players who share qubits, and who win for sure."""

import unittest
from fractions import Fraction
from random import Random
from time import perf_counter

from askedapart.errors import InvalidBook, InvalidNumber, InvalidOperation, InvalidOperator
from askedapart.main.answers import answer
from askedapart.main.lifts import few_operators
from askedapart.play.games import best_plan, fewest_lost, lost
from askedapart.play.pairs import mirrored, pair_outcomes
from askedapart.play.sure import (all_chance, are_players, can_come, chance, is_sure_or_lost, second_chance, sure_or_lost, sure_players,
                                  win_chance)
from askedapart.say.books import Book, beside
from askedapart.sign.answers import operators_or_bar
from book_samples import BOTH, FREE, WIDER, barred_book, bent, hidden, planar_book
from graph_samples import check_errors
from operator_samples import LETTERS, TEN, negated, own_are_right, own_commute, own_led, own_times, random_operator, random_operators
from samples import CHAIN, LONG, LONGEST, NOTHING, PENTAGRAM, SQUARE, TRIANGLE, all_bits, all_picks, caught, deep, small_books

CHANCE = Random(19)
ONCE = Book(1, (((0,), 1),))
EIGHTS = Book(24, tuple((tuple(range(8 * (k % 3), 8 * (k % 3) + 8)), k % 2) for k in range(16)))
NO_BOOK = tuple(value for value in NOTHING if not isinstance(value, Book))
HIDDEN = [hidden(CHANCE, CHANCE.randint(1, 3), CHANCE.randint(1, 4), CHANCE.randint(1, 6)) for _ in range(40)]
HIDDEN += [(SQUARE, LETTERS), (PENTAGRAM, TEN), (WIDER, (*LETTERS, "+II", "+II"))]
SMALL = [book for book in small_books(40, seed=19)] + [TRIANGLE, CHAIN, ONCE]


def commuting(many, length):
    """So many operators that commute: products of letters Z, led by quarter turns."""
    row = tuple(CHANCE.choice("+-") + "".join(CHANCE.choice("IZ") for _ in range(length)) for _ in range(many))
    return own_led(row, random_operators(CHANCE, 2, length))


def own_sure(book, operators):
    """The players who measure just these operators."""
    return tuple(tuple(operators[e] for e in members) for members, _ in book.sayings), operators


def some_players(book, length):
    """Players with unlike operators at both ends, some of them equal."""
    firsts = tuple(commuting(len(members), length) for members, _ in book.sayings)
    held = [operator for row in firsts for operator in row]
    seconds = tuple(CHANCE.choice([random_operator(CHANCE, length), CHANCE.choice(held), negated(CHANCE.choice(held))]) for _ in range(book.many))
    return firsts, seconds


def bent_players(book, players):
    """Players with one sign, or one operator, bent; commuting ones."""
    firsts, seconds = players
    if CHANCE.randrange(2):
        e = CHANCE.randrange(book.many)
        worse = CHANCE.choice([negated(seconds[e]), random_operator(CHANCE, len(seconds[e]) - 1), CHANCE.choice(seconds)])
        return firsts, (*seconds[:e], worse, *seconds[e + 1:])
    s = CHANCE.randrange(len(firsts))
    at = CHANCE.randrange(len(firsts[s]))
    row = (*firsts[s][:at], negated(firsts[s][at]), *firsts[s][at + 1:])
    return (*firsts[:s], row, *firsts[s + 1:]), seconds


def own_come(book, players, saying, unknown):
    """All that can come, by the words of [19.2]: the products of all subsets."""
    row = (*players[0][saying], players[1][unknown])
    sums = []
    for pick in all_picks(len(row)):
        if pick:
            power, letters = own_times(*[row[k] for k in pick])
            if set(letters) == {"I"}:
                assert power % 2 == 0
                sums.append((pick, power // 2))
    return tuple((bits[:-1], bits[-1]) for bits in all_bits(len(row)) if all(sum(bits[k] for k in pick) % 2 == bit for pick, bit in sums))


def own_win(book, players, saying, unknown):
    """The chance to win, by all that can come, each with one chance."""
    members, bit = book.sayings[saying]
    come = own_come(book, players, saying, unknown)
    won = [1 for bits, told in come if sum(bits) % 2 == bit and bits[members.index(unknown)] == told]
    return Fraction(len(won), len(come))


def pair(fraction):
    """A fraction as the package tells it."""
    return fraction.numerator, fraction.denominator


def some_cases():
    """Books with players of all kinds."""
    found = []
    for book, right in HIDDEN:
        sure = own_sure(book, right)
        found += [(book, sure), (book, bent_players(book, sure)), (book, bent_players(book, bent_players(book, sure)))]
    for book in SMALL:
        found += [(book, some_players(book, CHANCE.randint(1, 3))) for _ in range(2)]
        plain = tuple("+-"[CHANCE.randrange(2)] + "I" * 2 for _ in range(book.many))
        found.append((book, own_sure(book, plain)))
    return found


CASES = some_cases()


class Examples(unittest.TestCase):
    def test_examples(self):
        players = sure_players(SQUARE, LETTERS)
        self.assertEqual([players[0][3], can_come(SQUARE, players, 5, 2), sure_or_lost(SQUARE, players), all_chance(SQUARE, players)],
                         [("+XI", "+IZ", "+XZ"), (((0, 0, 1), 0), ((0, 1, 0), 0), ((1, 0, 0), 1), ((1, 1, 1), 1)), ("sure",), (1, 1)])
        self.assertEqual([chance(SQUARE, players, 0, 8, ((0, 1, 1), 0)), second_chance(SQUARE, players, 8),
                          win_chance(SQUARE, (players[0], ("-XI", *LETTERS[1:])), 0, 0)], [(1, 8), (1, 2), (0, 1)])
        self.assertEqual(can_come(ONCE, sure_players(ONCE, ("-I",)), 0, 0), (((1,), 1),))


class Players(unittest.TestCase):
    def test_players(self):
        seen = []
        for book, players in CASES:
            self.assertIs(are_players(book, players), True)
            firsts, seconds = players
            s = CHANCE.randrange(len(firsts))
            length = len(seconds[0]) - 1
            for row in (random_operators(CHANCE, len(firsts[s]), length), firsts[s][1:], firsts[s] + firsts[s][:1], list(firsts[s]), None, firsts[s][0],
                        tuple(operator + "I" for operator in firsts[s])):
                value = ((*firsts[:s], row, *firsts[s + 1:]), seconds)
                wanted = type(row) is tuple and len(row) == len(firsts[s]) and all(len(one) == length + 1 for one in row) and all(
                    own_commute(one, other) for one in row for other in row)
                seen.append(wanted)
                self.assertIs(are_players(book, value), wanted)
            for value in ((firsts,), (firsts, seconds, ()), [firsts, seconds], (seconds, firsts), (firsts, seconds[1:]), (firsts, seconds + seconds[:1]),
                          (firsts[1:], seconds), (list(firsts), seconds), (firsts, list(seconds)), (firsts, tuple(one + "X" for one in seconds)),
                          (firsts, (*seconds[:-1], "X"))):
                self.assertIs(are_players(book, value), False)
        self.assertEqual(set(seen), {True, False})
        for value in (*NOTHING, deep(CASES[0][1], 5, tuple), (("+X",),), ((("+X",),), ("+X", None)), ((None,), ("+X",)), (None, None), ("+X", "+X")):
            self.assertIs(are_players(ONCE, value), False)
        self.assertIs(are_players(ONCE, ((("+X",),), ("+Z",))), True)

    def test_sure_players(self):
        for book, right in HIDDEN:
            self.assertEqual(sure_players(book, right), own_sure(book, right))
        for at in range(9):
            caught(InvalidOperation, sure_players, SQUARE, (*LETTERS[:at], negated(LETTERS[at]), *LETTERS[at + 1:]))
        caught(InvalidOperation, sure_players, TRIANGLE, ("+X", "+X", "+X"))


class WhatComes(unittest.TestCase):
    def test_against_all_subsets(self):
        sizes = set()
        for book, players in CASES:
            for _ in range(4):
                s, e = CHANCE.randrange(len(book.sayings)), CHANCE.randrange(book.many)
                wanted = own_come(book, players, s, e)
                sizes.add(len(wanted))
                self.assertEqual(can_come(book, players, s, e), wanted)
        self.assertTrue({1, 2, 4, 8} <= sizes)

    def test_chances(self):
        for book, players in CASES:
            s, e = CHANCE.randrange(len(book.sayings)), CHANCE.randrange(book.many)
            wanted = own_come(book, players, s, e)
            total = Fraction(0)
            for bits in all_bits(len(book.sayings[s][0])):
                for bit in (0, 1):
                    found = chance(book, players, s, e, (bits, bit))
                    self.assertEqual(found, (1, len(wanted)) if (bits, bit) in wanted else (0, 1))
                    total += Fraction(*found)
            self.assertEqual(total, 1)

    def test_by_shared_pairs(self):
        # The second one measures the mirror.
        for book, players in CASES:
            s, e = CHANCE.randrange(len(book.sayings)), CHANCE.randrange(book.many)
            found = pair_outcomes(players[0][s], (mirrored(players[1][e]),))
            self.assertEqual(can_come(book, players, s, e), tuple((bits, bit) for bits, (bit,) in found))

    def test_nothing_told(self):
        for book, players in CASES:
            for e in range(book.many):
                wanted = second_chance(book, players, e)
                operator = players[1][e]
                self.assertEqual(wanted, (1, 2) if set(operator[1:]) != {"I"} else (1, 1) if operator[0] == "+" else (0, 1))
                for s in range(len(book.sayings)):
                    come = own_come(book, players, s, e)
                    self.assertEqual(Fraction(sum(bit == 0 for _, bit in come), len(come)), Fraction(*wanted))
            for s in range(len(book.sayings)):
                firsts = [{bits for bits, _ in own_come(book, players, s, e)} for e in range(book.many)]
                self.assertTrue(all(found == firsts[0] for found in firsts))

    def test_to_win(self):
        seen = set()
        for book, players in CASES:
            chances = []
            for s, (members, _) in enumerate(book.sayings):
                for e in members:
                    chances.append(own_win(book, players, s, e))
                    seen.add(chances[-1])
                    self.assertEqual(win_chance(book, players, s, e), pair(chances[-1]))
            self.assertEqual(all_chance(book, players), pair(sum(chances) / len(chances)))
        self.assertEqual(seen, {Fraction(0), Fraction(1, 4), Fraction(1, 2), Fraction(1)})

    def test_open_sums_that_hang_together(self):
        book, odd = [Book(2, (((0, 1), bit),)) for bit in (0, 1)]
        for second, wanted in (("+IZ", (1, 2)), ("-IZ", (0, 1)), ("+ZI", (1, 2)), ("+XI", (1, 4)), ("+ZZ", (1, 4))):
            players = ((("+ZI", "+IZ"),), ("+II", second))
            self.assertEqual(pair(own_win(book, players, 0, 1)), wanted)
            self.assertEqual(win_chance(book, players, 0, 1), wanted)
        # The second one tells the bit of the other member: that both are told alike is the sum of the saying.
        players = ((("+ZI", "+IZ"),), ("+II", "+ZI"))
        self.assertEqual([win_chance(book, players, 0, 1), win_chance(odd, players, 0, 1)], [(1, 2), (0, 1)])


class SureOrLost(unittest.TestCase):
    def is_own_lost(self, book, players, value):
        """By the words of [19.4]."""
        _, s, e, bits, bit = value
        if not (0 <= s < len(book.sayings) and e in book.sayings[s][0]):
            return False
        members, told = book.sayings[s]
        return (bits, bit) in own_come(book, players, s, e) and (sum(bits) % 2 != told or bits[members.index(e)] != bit)

    def test_sure_or_lost(self):
        words = {"sure": 0, "lost": 0}
        for book, players in CASES:
            found = sure_or_lost(book, players)
            words[found[0]] += 1
            wanted = all(own_win(book, players, s, e) == 1 for s, (members, _) in enumerate(book.sayings) for e in members)
            self.assertEqual(found == ("sure",), wanted)
            # Exactly if the seconds are right, and the firsts are just the same ones.
            self.assertEqual(wanted, own_are_right(book, players[1]) and players == own_sure(book, players[1]))
            self.assertTrue(wanted or self.is_own_lost(book, players, found))
            self.assertIs(is_sure_or_lost(book, players, found), True)
            self.assertIs(is_sure_or_lost(book, players, ("sure",)), wanted)
        self.assertGreater(min(words.values()), 30)

    def test_all_that_loses(self):
        judged = []
        for book, players in CASES:
            for _ in range(20):
                s = CHANCE.randrange(len(book.sayings))
                e = CHANCE.randrange(book.many)
                value = ("lost", s, e, tuple(CHANCE.randrange(2) for _ in book.sayings[s][0]), CHANCE.randrange(2))
                wanted = self.is_own_lost(book, players, value)
                judged.append(wanted)
                self.assertIs(is_sure_or_lost(book, players, value), wanted)
            found = sure_or_lost(book, players)
            if found[0] == "lost":
                _, s, e, bits, bit = found
                for worse in (found[:-1], (*found, 0), list(found), ("lost", s, e, list(bits), bit), ("lost", s, e, bits, bool(bit)), ("sure", *found[1:]),
                              ("lost", bool(s), e, bits, bit), ("lost", s, e, bits[1:], bit), ("lost", s, e, (*bits, 0), bit), ("lost", len(book.sayings), e, bits, bit),
                              ("lost", s, book.many, bits, bit), ("lost", s, -1, bits, bit), ("lost", s, bool(e), bits, bit), ("lost", s, e, tuple(bool(one) for one in bits), bit),
                              ("lost", s, e, bits, 2), ("lost", LONG, e, bits, bit), ("lost", s, None, bits, bit), ("lost", s, e, None, bit)):
                    self.assertIs(is_sure_or_lost(book, players, worse), False)
        self.assertGreater(min(judged.count(True), judged.count(False)), 100)

    def test_the_judged_value_is_never_an_error(self):
        sure, unsure = own_sure(SQUARE, LETTERS), own_sure(SQUARE, ("-XI", *LETTERS[1:]))
        for value in (*NOTHING, ("sure",), ("sure", ()), ["sure"], "sure", ("lost",), ("lost", 0, 0, (0, 0, 0), 0), ("lost", None, None, None, None),
                      ("lost", 0, 0, (0, 0, LONG), 0), (("sure",),), ("lost", [0], {}, (), ()), deep(("sure",), 5, tuple)):
            self.assertIs(is_sure_or_lost(SQUARE, sure, value), value == ("sure",))
            self.assertIs(is_sure_or_lost(SQUARE, unsure, value), False)

    def test_plain_ones(self):
        for book in SMALL + [SQUARE, BOTH]:
            rows, bits = best_plan(book)
            signs = tuple("+-"[bit] + "I" for bit in bits)
            players = (tuple(tuple("+-"[bit] + "I" for bit in row) for row in rows), signs)
            self.assertIs(are_players(book, players), True)
            many = sum(len(members) for members, _ in book.sayings)
            self.assertEqual(all_chance(book, players), pair(Fraction(many - len(lost(book, (rows, bits))), many)))
            self.assertEqual(sure_or_lost(book, players) == ("sure",), fewest_lost(book) == 0)
            for s in range(len(book.sayings)):
                self.assertEqual(can_come(book, players, s, 0), ((rows[s], bits[0]),))

    def test_an_undoing_and_nobody_sure(self):
        for book in (TRIANGLE, BOTH, *[planar_book(CHANCE, 6, 9)[0] for _ in range(6)]):
            self.assertEqual(answer(book)[0], "undoing")
            for length in (1, 2, 3):
                for players in (some_players(book, length), own_sure(book, tuple("+" + "I" * length for _ in range(book.many)))):
                    self.assertEqual(sure_or_lost(book, players)[0], "lost")
                    self.assertNotEqual(all_chance(book, players), (1, 1))

    def test_right_operators_win(self):
        for book in [barred_book(CHANCE, drawn=2 + k % 2, more=k % 3) for k in range(6)] + [beside(SQUARE, bent(TRIANGLE, 0))]:
            right = operators_or_bar(book)[1]
            players = sure_players(book, right)
            self.assertEqual([sure_or_lost(book, players), all_chance(book, players)], [("sure",), (1, 1)])
            self.assertGreaterEqual(fewest_lost(book), 1)

    def test_speed(self):
        ops = tuple("+" + "".join(CHANCE.choice("IZ") for _ in range(12)) for _ in range(24))
        players = (own_sure(EIGHTS, ops)[0], random_operators(CHANCE, 24, 12))
        begun = perf_counter()
        self.assertEqual(sure_or_lost(EIGHTS, players)[0], "lost")
        self.assertIs(is_sure_or_lost(EIGHTS, players, sure_or_lost(EIGHTS, players)), True)
        self.assertIs(type(all_chance(EIGHTS, players)), tuple)
        self.assertLess(perf_counter() - begun, 3)
        eight = tuple("+" + "I" * (k % 8) + "Z" + "I" * (11 - k % 8) for k in range(24))
        idle = (own_sure(EIGHTS, eight)[0], ("+" + "I" * 11 + "X",) * 24)
        self.assertEqual(len(can_come(EIGHTS, idle, 0, 9)), 512)
        self.assertEqual(chance(EIGHTS, idle, 0, 9, ((1,) * 8, 1)), (1, 512))
        wide = tuple("+" + "I" * 24 for _ in range(24))
        self.assertIs(are_players(EIGHTS, own_sure(EIGHTS, wide)), False)
        right = operators_or_bar(FREE)[1]
        self.assertEqual(sure_or_lost(FREE, sure_players(FREE, right)), ("sure",))


class NoneOfTheseIsTrue(unittest.TestCase):
    def test_sure_with_one_bit_always(self):
        players = sure_players(ONCE, ("-I",))
        self.assertEqual([sure_or_lost(ONCE, players), second_chance(ONCE, players, 0)], [("sure",), (0, 1)])

    def test_what_cannot_come_need_not_lose(self):
        players = own_sure(Book(1, (((0,), 0),)), ("+I",))
        book = Book(1, (((0,), 1),))
        self.assertNotIn(((1,), 1), own_come(book, players, 0, 0))
        self.assertEqual(chance(book, players, 0, 0, ((1,), 1)), (0, 1))
        self.assertIs(is_sure_or_lost(book, players, ("lost", 0, 0, (1,), 1)), False)

    def test_never_unlike_bits_and_not_sure(self):
        players = own_sure(ONCE, ("+Z",))
        self.assertTrue(all(bits[0] == bit for bits, bit in can_come(ONCE, players, 0, 0)))
        self.assertEqual([win_chance(ONCE, players, 0, 0), sure_or_lost(ONCE, players)[0]], [(1, 2), "lost"])

    def test_operators_that_win_less_than_plain_ones(self):
        players = (sure_players(SQUARE, LETTERS)[0], tuple(negated(operator) for operator in LETTERS))
        self.assertEqual(all_chance(SQUARE, players), (0, 1))
        self.assertEqual(fewest_lost(SQUARE), 1)


class WrongArguments(unittest.TestCase):
    def test_wrong_arguments(self):
        good = own_sure(TRIANGLE, ("+X", "+Y", "+X"))
        good = (tuple((row[0], row[0]) for row in good[0]), good[1])
        wrong = (*NOTHING, good[0], good[1], (good[0],), [*good], (good[0], good[1][:2]), ((("+X", "+Z"), *good[0][1:]), good[1]),
                 (good[0], ("+XX", "+YY", "+ZZ")), LONGEST)
        indices = (None, True, False, -1, 3, LONG, LONGEST, "0", (), (0,), [0], {})
        players = {0: (InvalidBook, NO_BOOK), 1: (InvalidOperator, wrong)}
        asked = {**players, 2: (InvalidNumber, indices), 3: (InvalidNumber, indices)}
        told = {**asked, 4: (InvalidOperation, (*[value for value in NOTHING if value != (0, 0)], ((0,), 0), ((0, 0, 0), 0), ((0, 0),), ((0, 0), 2), ((0, 0), True),
                                                ((0, True), 0), [(0, 0), 0], ([0, 0], 0), ((0, 0), 0, 0), (0, (0, 0)), (0, 0)))}
        right = {0: (InvalidBook, NO_BOOK), 1: (InvalidOperator, (*NOTHING, LETTERS[1:], list(LETTERS), (*LETTERS, "+II"), (*LETTERS[1:], "+X"), LETTERS[0]))}
        for call, args, bad in (
                (are_players, (TRIANGLE, None), {0: (InvalidBook, NO_BOOK)}), (can_come, (TRIANGLE, good, 0, 2), asked),
                (chance, (TRIANGLE, good, 0, 2, ((0, 0), 0)), told), (second_chance, (TRIANGLE, good, 0), {**players, 2: (InvalidNumber, indices)}),
                (win_chance, (TRIANGLE, good, 0, 1), asked), (all_chance, (TRIANGLE, good), players), (sure_players, (SQUARE, LETTERS), right),
                (sure_or_lost, (TRIANGLE, good), players), (is_sure_or_lost, (TRIANGLE, good, None), players)):
            check_errors(call, args, bad)

    def test_no_question(self):
        players = own_sure(SQUARE, LETTERS)
        for s, (members, _) in enumerate(SQUARE.sayings):
            for e in range(9):
                if e not in members:
                    caught(InvalidOperation, win_chance, SQUARE, players, s, e)
                    self.assertEqual(len(can_come(SQUARE, players, s, e)), len(own_come(SQUARE, players, s, e)))

    def test_nothing_is_changed_and_equal_calls_return_equal_results(self):
        for book, players in CASES[:20]:
            self.assertEqual(sure_or_lost(book, players), sure_or_lost(book, players))
        self.assertEqual(few_operators(SQUARE), few_operators(SQUARE))


if __name__ == "__main__":
    unittest.main()
