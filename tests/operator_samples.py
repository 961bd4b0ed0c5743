"""Operators that several tests use, and products with powers of i as one would do them by hand, letter by letter."""

from itertools import combinations, product

from samples import NOTHING, SQUARE, deep

LETTERS = ("+XI", "+IX", "+XX", "+IZ", "+ZI", "+ZZ", "+XZ", "+ZX", "+YY")
TEN = ("+XII", "+IXI", "+IIX", "+XXX", "+IIZ", "+IZI", "+XZZ", "+ZII", "+ZXZ", "+ZZX")
# X Y = i Z, Y Z = i X, Z X = i Y, the other way round with -i.
STEPS = {("X", "Y"): (1, "Z"), ("Y", "Z"): (1, "X"), ("Z", "X"): (1, "Y"),
         ("Y", "X"): (3, "Z"), ("Z", "Y"): (3, "X"), ("X", "Z"): (3, "Y")}
# Nothing here is an operator, or a tuple of such.
NO_OPERATOR = (*[value for value in NOTHING], "+", "-", "X", "XX", "+x", "*X", "+XA", " +X", "+X ", "+X\n", "+" + "X" * 13,
               "++X", "+X" * 100000, "+1", ("+X",), ["+X"], ["+", "X"], ("+", "X"), {"+X": "+X"}, "+iX", "-", "+-",
               deep("+X", 7, tuple))
NO_ROW = (*[value for value in NOTHING if value != "+X"], "+X", "+XX", ["+X"], ("+X", "+XX"), ("+X", "X"), ("+X", None), (),
          ("+X",) * 25, ("+X", ("+X",)), ("+X", True), {"+X": "+X"}, (("+X",),), ("+X", "+XI"), ("+" + "X" * 13,), ("+",))


def own_is_operator(value):
    """By the words of [0.10]."""
    if type(value) is not str or not 2 <= len(value) <= 13:
        return False
    return value[0] in "+-" and set(value[1:]) <= set("IXYZ")


def all_operators(length):
    """All operators of this length."""
    return [sign + "".join(letters) for sign in "+-" for letters in product("IXYZ", repeat=length)]


def own_times(*operators):
    """The power of i and the letters of a product, the operators being multiplied in their sequence."""
    power, letters = 0, "I" * (len(operators[0]) - 1)
    for operator in operators:
        power += 2 * (operator[0] == "-")
        found = ""
        for one, other in zip(letters, operator[1:]):
            if one == other:
                more, letter = 0, "I"
            elif "I" in (one, other):
                more, letter = 0, other if one == "I" else one
            else:
                more, letter = STEPS[(one, other)]
            power += more
            found += letter
        letters = found
    return power % 4, letters


def own_commute(one, other):
    """Whether at an even number of qubits both have letters other than I, and unlike ones."""
    return sum("I" not in pair and pair[0] != pair[1] for pair in zip(one[1:], other[1:])) % 2 == 0


def own_quarter(operator, by):
    """Itself if both commute, otherwise i times by times the operator."""
    if own_commute(operator, by):
        return operator
    power, letters = own_times(by, operator)
    assert power % 2 == 1
    return ("+" if (power + 1) % 4 == 0 else "-") + letters


def own_led(row, turns):
    """Where quarter turns, one behind the other, lead a row."""
    for by in turns:
        row = tuple(own_quarter(operator, by) for operator in row)
    return tuple(row)


def own_are_right(book, operators):
    """By the words of [0.12]."""
    for members, bit in book.sayings:
        some = [operators[e] for e in members]
        if not all(own_commute(one, other) for one, other in combinations(some, 2)):
            return False
        if own_times(*some) != (2 * bit, "I" * (len(some[0]) - 1)):
            return False
    return True


def own_table(operators):
    """The pairs that do not commute."""
    return tuple((e, f) for e, f in combinations(range(len(operators)), 2) if not own_commute(operators[e], operators[f]))


def random_operator(chance, length, idle=0):
    """An operator, with some letters I more for a greater number."""
    return chance.choice("+-") + "".join(chance.choice("XYZI" + "I" * idle) for _ in range(length))


def random_operators(chance, many, length, idle=0):
    """A row of operators of one length."""
    return tuple(random_operator(chance, length, idle) for _ in range(many))


def negated(operator):
    """The operator with the other sign."""
    return ("-" if operator[0] == "+" else "+") + operator[1:]


assert own_are_right(SQUARE, LETTERS)
