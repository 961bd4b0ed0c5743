"""Right operators for a book, by tables that keep sums of bits, or a paper that shows that there are none."""

from askedapart.base.bits import places_of, put_apart, solved_masks, sum_or_test_masks
from askedapart.base.checks import are_pairs_below, are_rising_pairs, has_form, is_told
from askedapart.base.lots import odd_times, pairs_below, pairs_of
from askedapart.errors import InvalidOperation, InvalidOperator, InvalidTable
from askedapart.say.books import cancelling, check_book, does_cancel, is_lot, is_odd, saying_bits, with_bits
from askedapart.say.signs import signs_or_lot
from askedapart.sign.operators import are_operators, does_commute, is_one, times_all, with_sign
from askedapart.sign.tables import strings_of, table_by


def is_true_for(operators, saying):
    """Whether the operators of a saying all commute, and their product is the sign of its bit."""
    members, bit = saying
    some = [operators[e] for e in members]
    if not all([does_commute(some[i], some[j]) for i, j in pairs_below(len(some))]):
        return False
    power, found = times_all(some)
    return is_one(found) and power == 2 * bit


def are_right_operators(book, value):
    """Whether the value is operators that are right for the book."""
    check_book(book)
    return are_operators(value, book.many, book.many) and all([is_true_for(value, saying) for saying in book.sayings])


def check_operators_for(book, value):
    """The errors of a book with a tuple of operators of one length, one for each unknown."""
    check_book(book)
    if not are_operators(value, book.many, book.many):
        raise InvalidOperator("a tuple of operators of one length, one for each unknown, is asked for")


def check_right(book, operators):
    """InvalidOperation unless the operators are right for the book."""
    if not are_right_operators(book, operators):
        raise InvalidOperation("the operators are not right for the book")


def table_of(book, operators):
    """The table of those of the operators that do not commute."""
    check_operators_for(book, operators)
    return table_by(operators)


def crossing_unknowns(book, lot):
    """The ascending tuple of the pairs that cross in a lot."""
    places = [e for at in lot for e in book.sayings[at][0]]
    return odd_times([(e, f) for at, f in enumerate(places) for e in places[at + 1:] if e < f])


def crossings(book, lot):
    """The ascending tuple of the pairs that cross in a lot that cancels."""
    if not does_cancel(book, lot):
        raise InvalidOperation("the lot does not cancel")
    return crossing_unknowns(book, lot)


def together(book):
    """The dict of all pairs of unknowns that stand in one saying together."""
    return {pair: True for members, _ in book.sayings for pair in pairs_of(members)}


def all_hits(book):
    """The ascending list of all hits: a saying and an unknown each."""
    return [(saying, f) for saying in range(len(book.sayings)) for f in range(book.many)]


def hit_pairs(book, hit):
    """The list of the pairs of the unknown of a hit and another one that its saying has."""
    saying, f = hit
    return [(min(e, f), max(e, f)) for e in book.sayings[saying][0] if e != f]


def free_places(book):
    """The dict from each pair of unknowns that stand in no saying together to its digit, ascending."""
    barred = together(book)
    free = [pair for pair in pairs_below(book.many) if pair not in barred]
    return {pair: 1 << at for at, pair in enumerate(free)}


def free_mask_of(places, pairs):
    """The mask of those of the pairs that have a place."""
    return sum([places[pair] for pair in pairs if pair in places])


def table_sums(book, places):
    """For each hit, then for each lot of the basis of those that cancel, the mask of the free pairs that it sums."""
    sums = [hit_pairs(book, hit) for hit in all_hits(book)] + [crossing_unknowns(book, lot) for lot in cancelling(book)]
    return [free_mask_of(places, pairs) for pairs in sums]


def table_or_pick(book, masks):
    """("bits", x) with the mask x of a right table, or ("bar", pick) of sums that add up to 0 = 1."""
    odd = [at for at, lot in enumerate(cancelling(book)) if is_odd(book, lot)]
    return solved_masks(masks, sum([1 << (len(all_hits(book)) + at) for at in odd]))


def keeps_sums(book, table):
    """Whether a table keeps all sums; those of a basis of the lots are enough, as others come of them."""
    barred = together(book)
    if any([pair in barred for pair in table]):
        return False
    kept = {pair: True for pair in table}
    if any([len([pair for pair in hit_pairs(book, hit) if pair in kept]) & 1 for hit in all_hits(book)]):
        return False
    return all([len([pair for pair in crossing_unknowns(book, lot) if pair in kept]) & 1 == int(is_odd(book, lot))
                for lot in cancelling(book)])


def is_right_table(book, value):
    """Whether the value is a table that is right for the book."""
    check_book(book)
    return are_rising_pairs(value, book.many) and keeps_sums(book, value)


def table_count(book):
    """How many right tables there are."""
    check_book(book)
    places = free_places(book)
    masks = table_sums(book, places)
    if table_or_pick(book, masks)[0] == "bar":
        return 0
    kept, _ = put_apart(masks)
    return 1 << (len(places) - len(kept))


def with_right_signs(book, strings):
    """Right operators with the letters of these strings; the product of each saying is a sign, and some are right."""
    powers = [times_all([strings[e] for e in members])[0] for members, _ in book.sayings]
    wanted = tuple([bit ^ (power >> 1) for bit, power in zip(saying_bits(book), powers)])
    _, signs = signs_or_lot(with_bits(book, wanted))
    return tuple([with_sign(bit, string) for bit, string in zip(signs, strings)])


def operators_by(book, table):
    """Right operators that have this right table, of half as many letters as its rank, one at least."""
    check_book(book)
    if not are_rising_pairs(table, book.many):
        raise InvalidTable("a table is an ascending tuple of pairs of unknowns, the lesser one ahead")
    if not keeps_sums(book, table):
        raise InvalidOperation("the table is not right for the book")
    return with_right_signs(book, strings_of(book.many, table))


def bar_by_pick(book, places, masks, pick):
    """("barred", lot, pairs, hits) by a pick of sums that add up to 0 = 1."""
    hits, lots = all_hits(book), cancelling(book)
    lot = odd_times([saying for at in places_of(pick) if at >= len(hits) for saying in lots[at - len(hits)]])
    crossed = crossing_unknowns(book, lot)
    # The hits of the pick fit several lots one by one; those of the one lot that comes of them are sought anew.
    _, found = sum_or_test_masks(masks[:len(hits)], free_mask_of(places, crossed))
    taken = tuple([hits[at] for at in places_of(found)])
    pairs = odd_times([*crossed, *[pair for hit in taken for pair in hit_pairs(book, hit)]])
    return ("barred", lot, pairs, taken)


def operators_or_bar(book):
    """("operators", operators) that are right, or ("barred", lot, pairs, hits) with a paper that there are none."""
    check_book(book)
    places = free_places(book)
    masks = table_sums(book, places)
    word, found = table_or_pick(book, masks)
    if word == "bar":
        return bar_by_pick(book, places, masks, found)
    pairs = list(places)
    return ("operators", operators_by(book, tuple([pairs[at] for at in places_of(found)])))


def is_paper(book, lot, pairs, hits):
    """Whether these are an odd lot that cancels, pairs that stand together and hits, all of which add up to none."""
    if not is_lot(book, lot) or not does_cancel(book, lot) or not is_odd(book, lot):
        return False
    barred = together(book)
    if not are_rising_pairs(pairs, book.many) or not all([pair in barred for pair in pairs]):
        return False
    if not are_pairs_below(hits, len(book.sayings), book.many):
        return False
    passed = [pair for hit in hits for pair in hit_pairs(book, hit)]
    return odd_times([*crossing_unknowns(book, lot), *pairs, *passed]) == ()


def is_operators_or_bar(book, value):
    """Whether the value is what operators_or_bar may return."""
    check_book(book)
    if is_told(value, "operators"):
        return are_right_operators(book, value[1])
    return has_form(value, "barred", 4) and is_paper(book, value[1], value[2], value[3])
