"""Undoings: rows of unknowns, steps that lead them on, and what steps show that lead from no row to no row."""

from askedapart.base.checks import has_form, has_size, is_index
from askedapart.base.lots import odd_times, pairs_of
from askedapart.errors import InvalidOperation, InvalidRow, Refused, TooMany
from askedapart.say.books import check_book, with_unknown

MOST_ROW = 200
MOST_STEPS = 4000
MOST_ROW_BACK = 180
MOST_STEPS_BACK = 400


def is_row(book, value):
    """Whether the value is a tuple of at most 200 unknowns of the book."""
    return has_size(value, 0, MOST_ROW) and all([is_index(e, book.many) for e in value])


def are_members(value, members):
    """Whether the value is all of the members, each once, in any sequence."""
    if not has_size(value, len(members), len(members)) or not all([is_index(e, members[-1] + 1) for e in value]):
        return False
    return tuple(sorted(value)) == members


def is_step(book, value):
    """Whether the value is a step of the book, whether or not it can be done."""
    if not has_size(value, 2, 4) or not is_index(value[1], MOST_ROW + 1):
        return False
    if has_form(value, "cancel", 2):
        return True
    if not (has_form(value, "put", 4) or has_form(value, "swap", 3)) or not is_index(value[2], len(book.sayings)):
        return False
    return value[0] == "swap" or are_members(value[3], book.sayings[value[2]][0])


def are_steps(book, value):
    """Whether the value is a tuple of at most 4,000 steps of the book."""
    return has_size(value, 0, MOST_STEPS) and all([is_step(book, step) for step in value])


def check_steps(book, steps):
    """InvalidOperation unless these are steps of the book."""
    if not are_steps(book, steps):
        raise InvalidOperation("a tuple of at most 4,000 steps is asked for")


def check_row_and_steps(book, row, steps):
    """The errors of a book with a row and steps of it."""
    check_book(book)
    if not is_row(book, row):
        raise InvalidRow("a row is a tuple of at most 200 unknowns")
    check_steps(book, steps)


def behind_step(book, row, step):
    """The row behind a step, or None if it cannot be done."""
    at = step[1]
    if step[0] == "put":
        fits = at <= len(row) and len(row) + len(step[3]) <= MOST_ROW
        return row[:at] + step[3] + row[at:] if fits else None
    if at + 2 > len(row):
        return None
    one, other = row[at:at + 2]
    if step[0] == "cancel":
        return row[:at] + row[at + 2:] if one == other else None
    members = book.sayings[step[2]][0]
    if one == other or one not in members or other not in members:
        return None
    return row[:at] + (other, one) + row[at + 2:]


def rows_along(book, row, steps):
    """The list of all rows, the first one and those behind each step, up to the first step that cannot be done."""
    rows = [row]
    for step in steps:
        found = behind_step(book, rows[-1], step)
        if found is None:
            return rows
        rows.append(found)
    return rows


def all_rows(book, row, steps):
    """The list of all rows; Refused with the first step that cannot be done."""
    rows = rows_along(book, row, steps)
    if len(rows) <= len(steps):
        raise Refused(("step", len(rows) - 1))
    return rows


def row_behind(book, row, steps):
    """The row behind the steps."""
    check_row_and_steps(book, row, steps)
    return all_rows(book, row, steps)[-1]


def sayings_put(steps):
    """The list of the sayings that are put, as often as they are."""
    return [step[2] for step in steps if step[0] == "put"]


def bits_put(book, steps):
    """The sum of the bits of all sayings that are put."""
    return sum([book.sayings[saying][1] for saying in sayings_put(steps)]) & 1


def sum_behind(book, steps):
    """The sum of the bits of all sayings that are put, as often as they are."""
    check_book(book)
    check_steps(book, steps)
    return bits_put(book, steps)


def put_lot(book, steps):
    """The ascending tuple of the sayings that are put an odd number of times."""
    check_book(book)
    check_steps(book, steps)
    return odd_times(sayings_put(steps))


def do_lead(book, row, steps, other):
    """Whether the steps can all be done, and lead from the row to the other one."""
    rows = rows_along(book, row, steps)
    return len(rows) > len(steps) and rows[-1] == other


def is_undoing(book, value):
    """Whether the value is steps that lead from no row to no row, with the sum 1."""
    check_book(book)
    return are_steps(book, value) and bits_put(book, value) == 1 and do_lead(book, (), value, ())


def check_undoing(book, steps):
    """The errors of a book with an undoing of it, which is steps in any case."""
    if not is_undoing(book, steps):
        raise InvalidOperation("the steps are no undoing of the book")


def pairs_falling(members):
    """The list of the pairs of members that do not ascend."""
    return [(low, high) for at, high in enumerate(members) for low in members[at + 1:] if low < high]


def pairs_in_steps(book, steps):
    """The list of the pairs of a saying by which the steps of an undoing change places, as often as they do."""
    found = []
    row = ()
    for step in steps:
        if step[0] == "put":
            found.extend(pairs_falling(step[3]))
        if step[0] == "swap":
            found.append(tuple(sorted(row[step[1]:step[1] + 2])))
        row = behind_step(book, row, step)
    sayings = sayings_put(steps)
    for saying, (members, _) in enumerate(book.sayings):
        # Two puts of one saying go together, which leads the members of the one over those of the other.
        if (sayings.count(saying) >> 1) & 1:
            found.extend(pairs_of(members))
    return found


def hits_in_steps(book, steps):
    """The list of the hits of puts that are led to the end of the row, and then till they ascend."""
    found = []
    row, ahead = (), ()
    for step in steps:
        if step[0] == "put":
            saying = step[2]
            found.extend([(saying, f) for f in row[step[1]:]])
            found.extend([(other, f) for other in ahead if other > saying for f in step[3]])
            # Of those ahead an even number of one saying pass by alike.
            ahead = odd_times([*ahead, saying])
        row = behind_step(book, row, step)
    return found


def paper_of(book, steps):
    """The paper (lot, pairs, hits) that an undoing tells."""
    check_undoing(book, steps)
    return odd_times(sayings_put(steps)), odd_times(pairs_in_steps(book, steps)), odd_times(hits_in_steps(book, steps))


def put_back(step):
    """Steps that take a put back: the same members, turned round, come in ahead of them."""
    _, at, saying, members = step
    return [("put", at, saying, members[::-1])] + [("cancel", at + k) for k in range(len(members) - 1, -1, -1)]


def cancel_back(book, step, unknown):
    """Steps that take a cancel of an unknown back: a saying with it comes in twice, all but the unknown cancelled."""
    at = step[1]
    saying = with_unknown(book, unknown)[0]
    rest = tuple([e for e in book.sayings[saying][0] if e != unknown])
    puts = [("put", at, saying, (unknown, *rest)), ("put", at + 1 + len(rest), saying, (*rest[::-1], unknown))]
    return puts + [("cancel", at + k) for k in range(len(rest), 0, -1)]


def step_back(book, row, step):
    """Steps that take a step back that was done with this row."""
    if step[0] == "put":
        return put_back(step)
    return cancel_back(book, step, row[step[1]]) if step[0] == "cancel" else [step]


def led_back(book, row, steps):
    """Steps from the row behind the steps back to the row, with the same sum."""
    check_row_and_steps(book, row, steps)
    rows = all_rows(book, row, steps)
    if max([len(found) for found in rows]) > MOST_ROW_BACK:
        raise TooMany(MOST_ROW_BACK)
    if len(steps) > MOST_STEPS_BACK:
        raise TooMany(MOST_STEPS_BACK)
    taken = [step_back(book, rows[at], steps[at]) for at in range(len(steps) - 1, -1, -1)]
    return tuple([step for found in taken for step in found])


def is_led_back(book, row, steps, value):
    """Whether the value is steps from the row behind the steps back to the row, with the same sum."""
    behind = row_behind(book, row, steps)
    if not are_steps(book, value) or bits_put(book, value) != bits_put(book, steps):
        return False
    return do_lead(book, behind, value, row)
