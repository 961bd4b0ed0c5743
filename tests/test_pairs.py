"""Promises [18.1] to [18.6]: states of qubits and what they fix, what is measured, and shared pairs."""

import unittest
from itertools import combinations, product
from random import Random
from time import perf_counter

from askedapart.errors import InvalidNumber, InvalidOperation, InvalidOperator, InvalidState, Refused, TooMany
from askedapart.play.pairs import (fixed_bit, form, is_parting, is_state, measured, mirrored, outcomes, pair_outcomes, parting,
                                   shared_pairs)
from graph_samples import check_errors
from operator_samples import (NO_OPERATOR, NO_ROW, all_operators, negated, own_commute, own_led, own_quarter, own_times, random_operator,
                              random_operators)
from samples import LONG, LONGEST, NOTHING, all_bits, all_picks, caught, deep, is_basis_form

CHANCE = Random(18)


def random_state(length):
    """A state: quarter turns lead the one of Z at each qubit, and products are put together."""
    row = tuple(CHANCE.choice("+-") + "I" * k + "Z" + "I" * (length - 1 - k) for k in range(length))
    row = list(own_led(row, random_operators(CHANCE, 3 * length, length)))
    for _ in range(2 * length):
        if length > 1:
            one, other = CHANCE.sample(range(length), 2)
            power, letters = own_times(row[one], row[other])
            row[one] = "+-"[power // 2] + letters
    return tuple(row)


STATES = [random_state(1 + k % 5) for k in range(60)]
WIDE = [random_state(length) for length in (8, 11, 12, 12)]


def own_fixed(state):
    """The set of all that a state fixes, by the words of [18.1]."""
    found = {"+" + "I" * len(state)}
    for pick in all_picks(len(state)):
        if pick:
            power, letters = own_times(*[state[k] for k in pick])
            found.add("+-"[power // 2] + letters)
    return found


def own_is_state(value):
    """By the words of [18.1], for tuples of operators."""
    if any(len(operator) != len(value) + 1 for operator in value):
        return False
    if not all(own_commute(one, other) for one, other in combinations(value, 2)):
        return False
    return all(set(own_times(*[value[k] for k in pick])[1]) != {"I"} for pick in all_picks(len(value)) if pick)


def own_bit(fixed, operator):
    """The bit that is sure, or None."""
    return 0 if operator in fixed else 1 if negated(operator) in fixed else None


def own_behind(fixed, operator, bit):
    """All that is fixed behind a bit, by the words of [18.2]."""
    told = operator if bit == 0 else negated(operator)
    left = [other for other in fixed if own_commute(other, operator)]
    found = set(left)
    for other in left:
        power, letters = own_times(told, other)
        found.add("+-"[power // 2] + letters)
    return found


def own_rows(fixed, row):
    """All rows of bits that can come, measured one behind the other."""
    found = [((), fixed)]
    for operator in row:
        more = []
        for bits, held in found:
            sure = own_bit(held, operator)
            more += [((*bits, bit), own_behind(held, operator, bit)) for bit in ((0, 1) if sure is None else (sure,))]
        found = more
    return tuple(sorted(bits for bits, _ in found))


def bits_row(operator):
    """The first, then the second bits of an operator."""
    return tuple(int(letter in "XY") for letter in operator[1:]) + tuple(int(letter in "ZY") for letter in operator[1:])


def pairs_of_letters(number):
    """What the state of shared pairs is made of, by the words of [18.4]."""
    found = []
    for i in range(number):
        for letter in "XZ":
            found.append("+" + "".join(letter if at in (i, number + i) else "I" for at in range(2 * number)))
    return tuple(found)


class Examples(unittest.TestCase):
    def test_examples(self):
        self.assertEqual([shared_pairs(1), mirrored("-XY"), fixed_bit(("+XX", "+ZZ"), "+YY"), fixed_bit(("+XX", "+ZZ"), "+XI"),
                          measured(("+Z",), "+X", 1)], [("+XX", "+ZZ"), "+XY", 1, None, ("-X",)])
        self.assertEqual(len(outcomes(("+Z",), ("+X", "+Z", "+X"))), 8)
        self.assertIs(is_parting(("+XX", "+ZZ"), ("-XX", "+ZZ"), "-YY"), True)


class States(unittest.TestCase):
    def test_states(self):
        for state in STATES + WIDE:
            self.assertIs(is_state(state), True)
        seen = []
        for length in (1, 2):
            for value in product(all_operators(length), repeat=length):
                seen.append(own_is_state(value))
                self.assertIs(is_state(value), seen[-1])
        for _ in range(400):
            length = CHANCE.randint(2, 4)
            value = list(random_state(length))
            value[CHANCE.randrange(length)] = CHANCE.choice([random_operator(CHANCE, length, 2), CHANCE.choice(value)])
            seen.append(own_is_state(tuple(value)))
            self.assertIs(is_state(tuple(value)), seen[-1])
        self.assertGreater(min(seen.count(True), seen.count(False)), 50)

    def test_no_states(self):
        for value in (*NO_ROW, *NO_OPERATOR, ("+X", "+Z"), ("+XI",), ("+XI", "+IX", "+ZZ"), ("+II", "+XX"), ("+XX", "-XX"), ("+I",), ["+X"],
                      ("+XX", "+ZZ", "-YY"), ("+" + "X" * 12,) * 12, tuple("+" + "I" * k + "Z" + "I" * (12 - k) for k in range(13)), deep("+X", 3, tuple)):
            self.assertIs(is_state(value), own_is_state(value) if value in (("+X",),) else False)
        self.assertIs(is_state(("+X",)), True)

    def test_the_one_form(self):
        for state in STATES:
            found = form(state)
            self.assertEqual(own_fixed(found), own_fixed(state))
            self.assertTrue(is_basis_form([bits_row(operator) for operator in found]))
            other = self.other_state(state)
            self.assertEqual(form(other), found)
            self.assertEqual(form(found), found)
        for state in WIDE:
            found = form(state)
            self.assertTrue(is_basis_form([bits_row(operator) for operator in found]))
            self.assertEqual(form(self.other_state(state)), found)
            self.assertTrue(all(fixed_bit(found, operator) == 0 for operator in state))

    def other_state(self, state):
        """Another state that fixes the same: products put together, in another sequence."""
        row = list(CHANCE.sample(state, len(state)))
        for _ in range(6):
            if len(row) > 1:
                one, other = CHANCE.sample(range(len(row)), 2)
                power, letters = own_times(row[one], row[other])
                row[one] = "+-"[power // 2] + letters
        return tuple(row)

    def test_what_is_fixed(self):
        kinds = set()
        for state in STATES:
            fixed = own_fixed(state)
            some = all_operators(len(state)) if len(state) <= 3 else random_operators(CHANCE, 60, len(state)) + tuple(CHANCE.sample(sorted(fixed), 16))
            for operator in some:
                for one in (operator, negated(operator)):
                    wanted = own_bit(fixed, one)
                    kinds.add(wanted)
                    self.assertEqual(fixed_bit(state, one), wanted)
        self.assertEqual(kinds, {0, 1, None})
        for state in WIDE:
            self.assertEqual([fixed_bit(state, "+" + "I" * len(state)), fixed_bit(state, "-" + "I" * len(state))], [0, 1])
            power, letters = own_times(*state)
            self.assertEqual(fixed_bit(state, "+" + letters), power // 2)

    def test_partings(self):
        kinds = set()
        for state in STATES:
            bent = tuple(negated(operator) if CHANCE.randrange(2) else operator for operator in state)
            for other in (random_state(len(state)), bent, self.other_state(state), state):
                one_fixed, other_fixed = own_fixed(state), own_fixed(other)
                found = parting(state, other)
                kinds.add(found is None)
                self.assertEqual(found is None, one_fixed == other_fixed)
                if found is not None:
                    self.assertTrue(found in one_fixed and found not in other_fixed)
                self.assertIs(is_parting(state, other, found), True)
                self.assertIs(is_parting(state, other, None), one_fixed == other_fixed)
                for value in [*sorted(one_fixed), *random_operators(CHANCE, 10, len(state)), *[negated(one) for one in sorted(one_fixed)]][:60]:
                    self.assertIs(is_parting(state, other, value), value in one_fixed and value not in other_fixed)
        self.assertEqual(kinds, {True, False})

    def test_judged_values(self):
        for value in (*NO_OPERATOR, "+XXX", "+X", ("+XX",), ["+XX"], LONGEST):
            self.assertIs(is_parting(("+XX", "+ZZ"), ("-XX", "+ZZ"), value), False)
            if value is not None:
                self.assertIs(is_parting(("+XX", "+ZZ"), ("+XX", "-YY"), value), False)
        self.assertIs(is_parting(("+XX", "+ZZ"), ("+XX", "-YY"), None), True)


class Measuring(unittest.TestCase):
    def test_one_operator(self):
        seen = {"sure": 0, "open": 0, "never": 0}
        for state in STATES:
            fixed = own_fixed(state)
            for operator in random_operators(CHANCE, 12, len(state), 1) + tuple(CHANCE.sample(sorted(fixed), 2)):
                for bit in (0, 1):
                    sure = own_bit(fixed, operator)
                    if sure == 1 - bit:
                        seen["never"] += 1
                        self.assertEqual(caught(Refused, measured, state, operator, bit).reason, ("never",))
                        continue
                    seen["open" if sure is None else "sure"] += 1
                    found = measured(state, operator, bit)
                    self.assertEqual(own_fixed(found), own_behind(fixed, operator, bit))
                    self.assertEqual(form(found), found)
                    self.assertEqual(fixed_bit(found, operator), bit)
                    # The same once more is sure, and changes nothing.
                    self.assertEqual(measured(found, operator, bit), found)
                    self.assertEqual(caught(Refused, measured, found, operator, 1 - bit).reason, ("never",))
        self.assertGreater(min(seen.values()), 50)

    def test_again_and_again(self):
        for state in WIDE:
            fixed_by = form(state)
            for _ in range(20):
                operator = random_operator(CHANCE, len(state), 1)
                sure = fixed_bit(fixed_by, operator)
                bit = CHANCE.randrange(2) if sure is None else sure
                fixed_by = measured(fixed_by, operator, bit)
                self.assertIs(is_state(fixed_by), True)
                self.assertEqual([fixed_bit(fixed_by, operator), form(fixed_by)], [bit, fixed_by])

    def test_rows(self):
        sizes = set()
        for state in STATES:
            fixed = own_fixed(state)
            for _ in range(4):
                held = random_operators(CHANCE, CHANCE.randint(1, 3), len(state), 1)
                row = tuple(CHANCE.choice(held) if CHANCE.randrange(3) else random_operator(CHANCE, len(state)) for _ in range(CHANCE.randint(1, 6)))
                found = outcomes(state, row)
                self.assertEqual(found, own_rows(fixed, row))
                sizes.add(len(found))
                # How many are not sure does not hang on what came ahead.
                self.assertEqual(len(found) & (len(found) - 1), 0)
        self.assertTrue({1, 2, 4, 8, 16} <= sizes)

    def test_rows_step_by_step(self):
        for state in WIDE:
            row = tuple(random_operator(CHANCE, len(state), 1) for _ in range(5)) * 2
            rows = outcomes(state, row)
            for bits in (rows[0], rows[-1], CHANCE.choice(rows)):
                now = state
                for operator, bit in zip(row, bits):
                    now = measured(now, operator, bit)
            absent = [bits for bits in CHANCE.sample(all_bits(10), 60) if bits not in rows]
            for bits in absent:
                self.assertFalse(self.can_be_measured(state, row, bits))

    def can_be_measured(self, state, row, bits):
        """Whether these bits come, one behind the other."""
        for operator, bit in zip(row, bits):
            if fixed_bit(state, operator) == 1 - bit:
                return False
            state = measured(state, operator, bit)
        return True

    def test_commuting_ones_in_another_sequence(self):
        for state in STATES:
            row = random_state(len(state))
            order = CHANCE.sample(range(len(row)), len(row))
            found = outcomes(state, row)
            other = outcomes(state, tuple(row[k] for k in order))
            self.assertEqual(sorted(tuple(bits[k] for k in order) for bits in found), list(other))

    def test_bounds(self):
        zs = tuple("+" + "I" * k + "Z" + "I" * (11 - k) for k in range(12))
        xs = tuple(operator.replace("Z", "X") for operator in zs)
        begun = perf_counter()
        self.assertEqual(outcomes(zs, xs), tuple(all_bits(12)))
        self.assertEqual(outcomes(zs, xs + xs), tuple(bits + bits for bits in all_bits(12)))
        self.assertLess(perf_counter() - begun, 3)
        self.assertEqual(caught(TooMany, outcomes, zs, xs + zs[:1]).limit, 4096)
        self.assertEqual(caught(TooMany, outcomes, zs, xs + zs).limit, 4096)
        self.assertEqual(outcomes(zs, zs * 2), ((0,) * 24,))
        self.assertEqual(outcomes(("+Z",), ("-Z",)), ((1,),))
        self.assertEqual(len(outcomes(("+Z",), ("+X", "+Z") * 6)), 4096)
        caught(TooMany, outcomes, ("+Z",), ("+X", "+Z") * 6 + ("+X",))
        self.assertEqual(len(outcomes(("+Z",), ("+Z", "+Z") + ("+X", "+Z") * 6)), 4096)


class SharedPairs(unittest.TestCase):
    def test_states_of_shared_pairs(self):
        for number in range(1, 7):
            state = shared_pairs(number)
            self.assertEqual(state, form(pairs_of_letters(number)))
            self.assertTrue(is_basis_form([bits_row(operator) for operator in state]))
            for operator in random_operators(CHANCE, 40, number):
                self.assertEqual(fixed_bit(state, operator + mirrored(operator)[1:]), int(mirrored(operator)[0] == "-"))

    def test_mirrors(self):
        for length in (1, 2, 3):
            for operator in all_operators(length):
                found = mirrored(operator)
                self.assertEqual(found[1:], operator[1:])
                self.assertEqual(found[0] == operator[0], operator.count("Y") % 2 == 0)
                self.assertEqual(mirrored(found), operator)
        self.assertEqual([mirrored("+" + "Y" * 12), mirrored("-" + "Y" * 11)], ["+" + "Y" * 12, "+" + "Y" * 11])

    def test_equal_bits_exactly_if_mirrored(self):
        for length in (1, 2):
            fixed = own_fixed(pairs_of_letters(length))
            for one, other in product(all_operators(length), repeat=2):
                found = pair_outcomes((one,), (other,))
                wanted = own_rows(fixed, (one + "I" * length, other[0] + "I" * length + other[1:]))
                self.assertEqual(found, tuple((bits[:1], bits[1:]) for bits in wanted))
                self.assertEqual(all(bits == more for bits, more in found), other == mirrored(one))

    def test_pairs_of_rows(self):
        sizes = set()
        for _ in range(60):
            length = CHANCE.randint(1, 2)
            fixed = own_fixed(pairs_of_letters(length))
            row, others = [random_operators(CHANCE, CHANCE.randint(1, 3), length) for _ in range(2)]
            if CHANCE.randrange(2):
                others = tuple(mirrored(operator) for operator in row) + others[:1]
            both = tuple(operator + "I" * length for operator in row) + tuple(one[0] + "I" * length + one[1:] for one in others)
            wanted = tuple((bits[:len(row)], bits[len(row):]) for bits in own_rows(fixed, both))
            self.assertEqual(pair_outcomes(row, others), wanted)
            sizes.add(len(wanted))
        self.assertGreater(len(sizes), 3)

    def test_by_the_state_of_up_to_six_pairs(self):
        for length in range(1, 7):
            row, others = random_operators(CHANCE, 3, length, 1), random_operators(CHANCE, 4, length, 1)
            both = tuple(operator + "I" * length for operator in row) + tuple(one[0] + "I" * length + one[1:] for one in others)
            self.assertEqual(pair_outcomes(row, others), tuple((bits[:3], bits[3:]) for bits in outcomes(shared_pairs(length), both)))

    def test_nothing_passes(self):
        for _ in range(40):
            length = CHANCE.randint(1, 4)
            row = random_operators(CHANCE, 2, length)
            alone = outcomes(shared_pairs(length), tuple(operator + "I" * length for operator in row))
            for others in (random_operators(CHANCE, 3, length), row, tuple(mirrored(operator) for operator in row)):
                found = pair_outcomes(row, others)
                # What comes at the one end comes with the same chances, whatever is measured at the other one.
                counts = {bits: sum(one == bits for one, _ in found) for bits in alone}
                self.assertEqual({one for one, _ in found}, set(alone))
                self.assertEqual(len(set(counts.values())), 1)

    def test_measured_at_one_end_and_at_the_other_one(self):
        for _ in range(30):
            length = CHANCE.randint(1, 3)
            row, others = random_operators(CHANCE, 2, length), random_operators(CHANCE, 2, length)
            here = [operator + "I" * length for operator in row]
            there = [operator[0] + "I" * length + operator[1:] for operator in others]
            one = outcomes(shared_pairs(length), (*here, *there))
            other = outcomes(shared_pairs(length), (*there, *here))
            self.assertEqual(sorted(bits[2:] + bits[:2] for bits in one), list(other))

    def test_bounds(self):
        xs = tuple("+" + "I" * k + "X" + "I" * (11 - k) for k in range(12))
        begun = perf_counter()
        found = pair_outcomes(xs, xs)
        self.assertEqual(found, tuple((bits, bits) for bits in all_bits(12)))
        self.assertEqual(len(pair_outcomes(xs * 2, (xs[0],) * 24)), 4096)
        self.assertLess(perf_counter() - begun, 4)
        zs = tuple(operator.replace("X", "Z") for operator in xs)
        self.assertEqual(caught(TooMany, pair_outcomes, xs, zs).limit, 4096)
        self.assertEqual(len(pair_outcomes(xs[:6], zs[:6])), 4096)
        caught(TooMany, pair_outcomes, xs[:6], zs[:7])
        # Seven letters and more: as many shared pairs as letters, though no state is so wide.
        for length in (7, 9, 12):
            operator = random_operator(CHANCE, length)
            self.assertEqual(pair_outcomes((operator,), (mirrored(operator),)), (((0,), (0,)), ((1,), (1,))))


class NoneOfTheseIsTrue(unittest.TestCase):
    def test_the_same_measured_again_with_others_between(self):
        self.assertTrue(any(bits[0] != bits[2] for bits in outcomes(("+Z",), ("+X", "+Z", "+X"))))

    def test_states_alike_in_single_letters(self):
        one, other = ("+XX", "+ZZ"), ("-XX", "+ZZ")
        for letter, place in product("XYZ", (0, 1)):
            operator = "+" + ("I" + letter if place else letter + "I")
            self.assertEqual([fixed_bit(one, operator), fixed_bit(other, operator)], [None, None])
        self.assertNotEqual(form(one), form(other))

    def test_equal_bits_for_two_letters_and_not_for_the_third_one(self):
        for letter, equal in (("X", True), ("Z", True), ("Y", False)):
            found = pair_outcomes((f"+{letter}",), (f"+{letter}",))
            self.assertEqual(all(one == other for one, other in found), equal)
        self.assertEqual(own_quarter("+X", "+X"), "+X")


class WrongArguments(unittest.TestCase):
    def test_wrong_arguments(self):
        no_state = (*[value for value in NO_ROW if value != ("+X",)], ("+X", "+Z"), ("+XI", "+XI"), ("+II", "+ZZ"), ["+XI", "+IX"], ("+XI",))
        state = {0: (InvalidState, no_state)}
        operator = {**state, 1: (InvalidOperator, NO_OPERATOR)}
        bits = {**operator, 2: (InvalidNumber, (None, True, False, -1, 2, "0", LONG, [], (), "never"))}
        rows = {**state, 1: (InvalidOperator, NO_ROW)}
        two = {**state, 1: (InvalidState, no_state)}
        for call, good, bad in (
                (form, (("+XX", "+ZZ"),), state), (fixed_bit, (("+XX", "+ZZ"), "+XI"), operator), (measured, (("+XX", "+ZZ"), "+XI", 0), bits),
                (outcomes, (("+XX", "+ZZ"), ("+XI",)), rows), (parting, (("+XX", "+ZZ"), ("+XI", "+IX")), two),
                (is_parting, (("+XX", "+ZZ"), ("+XI", "+IX"), None), two), (mirrored, ("+X",), {0: (InvalidOperator, NO_OPERATOR)}),
                (shared_pairs, (1,), {0: (InvalidNumber, (None, True, False, 0, 7, -1, "1", (1,), [1], LONG, LONGEST))}),
                (pair_outcomes, (("+X",), ("+Z", "+X")), {0: (InvalidOperator, NO_ROW), 1: (InvalidOperator, NO_ROW)})):
            check_errors(call, good, bad)

    def test_unlike_lengths_come_behind_all_others(self):
        state = ("+XX", "+ZZ")
        for call, given in ((fixed_bit, (state, "+X")), (fixed_bit, (state, "+XXX")), (measured, (state, "+X", 0)), (measured, (state, "-ZZZ", 1)),
                            (outcomes, (state, ("+X",))), (outcomes, (state, ("+XXX", "+III"))), (parting, (state, ("+X",))),
                            (parting, (("+X",), state)), (is_parting, (state, ("+X",), None)), (pair_outcomes, (("+X",), ("+XX",))),
                            (pair_outcomes, (("+XX", "+ZZ"), ("+X", "+Z", "+Y")))):
            caught(InvalidOperation, call, *given)
        for bit in (None, 2, True):
            self.assertIs(caught(InvalidNumber, measured, state, "+X", bit).given, bit)
        caught(InvalidOperator, measured, state, "X", 2)
        # Unlike lengths come ahead of what is too much, and of what never comes.
        caught(InvalidOperation, pair_outcomes, tuple("+" + "I" * k + "X" + "I" * (11 - k) for k in range(12)), ("+X",) * 24)
        caught(InvalidOperation, outcomes, ("+Z",), ("+XX", "+ZI") * 12)

    def test_nothing_is_changed_and_equal_calls_return_equal_results(self):
        self.assertIs(is_state([*STATES[0]]), False)
        for state in STATES[:10]:
            row = random_operators(CHANCE, 4, len(state))
            self.assertEqual([form(state), outcomes(state, row)], [form(state), outcomes(state, row)])
        for value in NOTHING:
            self.assertIs(is_state(value), False)


if __name__ == "__main__":
    unittest.main()
