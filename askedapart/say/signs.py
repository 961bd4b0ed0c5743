"""Signs for books: right ones, what follows from all sayings, and the fewest false sayings."""

from askedapart.base.bits import all_sums, bits_sum, kernel, mask_of, ones, places_of, solution_count, solutions
from askedapart.base.bits import solved, sum_or_test
from askedapart.base.checks import are_ascending, has_size, is_bit, is_bit_for_each, is_told
from askedapart.errors import InvalidBits, InvalidOperation, Refused, TooMany
from askedapart.say.books import check_book, check_lot, does_cancel, is_lot, is_odd, is_paired, pieces, saying_bits
from askedapart.say.books import saying_rows, sum_of

MOST_SIGNS = 1024
MOST_TRIED = 12


def is_wish(book, value):
    """Whether the value is a wish: an ascending tuple of unknowns, perhaps (), and a bit."""
    return has_size(value, 2, 2) and are_ascending(value[0], book.many) and is_bit(value[1])


def check_wish(book, wish):
    """The errors of a book with a wish; then Refused(("lot",)) if no signs are right."""
    check_book(book)
    if not is_wish(book, wish):
        raise InvalidOperation("a wish is an ascending tuple of unknowns, and a bit")
    check_some_right(book)


def check_some_right(book):
    """The errors of a book; then Refused(("lot",)) if no signs are right."""
    if sign_count(book) == 0:
        raise Refused(("lot",))


def is_true(wish, signs):
    """Whether a wish, or a saying, is true for the signs."""
    members, bit = wish
    return sum([signs[e] for e in members]) & 1 == bit


def false_ones(book, signs):
    """The ascending tuple of the sayings that are false for the signs."""
    return tuple([at for at, saying in enumerate(book.sayings) if not is_true(saying, signs)])


def are_right(book, value):
    """Whether the value is signs for which all sayings are true."""
    check_book(book)
    return is_bit_for_each(value, book.many) and false_ones(book, value) == ()


def signs_or_lot(book):
    """("signs", bits) that are right, or ("lot", lot) with an odd lot that cancels."""
    check_book(book)
    word, found = solved(saying_rows(book), saying_bits(book))
    return ("signs", found) if word == "bits" else ("lot", found)


def is_signs_or_lot(book, value):
    """Whether the value is what signs_or_lot may return."""
    check_book(book)
    if is_told(value, "signs"):
        return are_right(book, value[1])
    if is_told(value, "lot") and is_lot(book, value[1]):
        return does_cancel(book, value[1]) and is_odd(book, value[1])
    return False


def sign_count(book):
    """How many signs are right."""
    check_book(book)
    return solution_count(saying_rows(book), saying_bits(book))


def all_signs(book):
    """The ascending tuple of all right signs."""
    if sign_count(book) > MOST_SIGNS:
        raise TooMany(MOST_SIGNS)
    return solutions(saying_rows(book), saying_bits(book))


def lot_or_signs(book, wish):
    """("lot", lot) whose sum the wish is, or ("signs", bits) that are right, with the wish false."""
    check_wish(book, wish)
    rows = saying_rows(book)
    right = solved(rows, saying_bits(book))[1]
    word, found = sum_or_test(rows, tuple([int(e in wish[0]) for e in range(book.many)]))
    if word == "sum" and sum_of(book, found) == wish:
        return ("lot", found)
    if is_true(wish, right):
        # Then the members are no sum, and what was found changes no saying, but the wish.
        return ("signs", bits_sum(right, found))
    return ("signs", right)


def is_lot_or_signs(book, wish, value):
    """Whether the value is what lot_or_signs may return."""
    check_wish(book, wish)
    if is_told(value, "lot"):
        return is_lot(book, value[1]) and sum_of(book, value[1]) == wish
    if is_told(value, "signs"):
        return are_right(book, value[1]) and not is_true(wish, value[1])
    return False


def told(book):
    """The dict from each unknown with one bit in all right signs to this bit."""
    check_some_right(book)
    rows = saying_rows(book)
    right = solved(rows, saying_bits(book))[1]
    changes = kernel(rows)
    return {e: right[e] for e in range(book.many) if not any([change[e] for change in changes])}


def false_lot(book, signs):
    """The lot of the sayings that are false for the signs."""
    check_book(book)
    if not is_bit_for_each(signs, book.many):
        raise InvalidBits("signs are a tuple of a bit for each unknown")
    return false_ones(book, signs)


def signs_for(book, lot):
    """Signs for which just the sayings of the lot are false, or None if there are none."""
    check_lot(book, lot)
    wanted = tuple([bit ^ int(at in lot) for at, bit in enumerate(saying_bits(book))])
    word, found = solved(saying_rows(book), wanted)
    return found if word == "bits" else None


def is_signs_for(book, lot, value):
    """Whether the value is what signs_for may return."""
    check_lot(book, lot)
    if value is None:
        return signs_for(book, lot) is None
    return is_bit_for_each(value, book.many) and false_ones(book, value) == lot


def check_tried(book):
    """The errors of a book whose fewest false sayings are asked for."""
    check_book(book)
    if book.many > MOST_TRIED and not is_paired(book):
        raise TooMany(MOST_TRIED)


def fewest_in_paired(book):
    """Signs for a paired book with one false saying in each odd piece, and no further one."""
    return signs_for(book, tuple([lot[0] for lot in pieces(book) if is_odd(book, lot)]))


def fewest_of_all(book):
    """Signs with the fewest false sayings, all signs being gone through."""
    rows = saying_rows(book)
    columns = [mask_of(column) for column in zip(*rows)]
    tried = [ones(mask) for mask in all_sums(mask_of(saying_bits(book)), columns)]
    turns = places_of(tried.index(min(tried)))
    return tuple([int(e in turns) for e in range(book.many)])


def fewest(book):
    """How many sayings are false at least, whatever the signs."""
    return len(false_lot(book, fewest_signs(book)))


def fewest_signs(book):
    """Signs for which as few sayings are false as for any."""
    check_tried(book)
    return fewest_in_paired(book) if is_paired(book) else fewest_of_all(book)


def is_fewest_signs(book, value):
    """Whether the value is what fewest_signs may return."""
    check_tried(book)
    return is_bit_for_each(value, book.many) and len(false_ones(book, value)) == fewest(book)
