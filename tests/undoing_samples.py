"""Steps that tests of undoings use: walked by hand, whatever steps, undoings put together and drawn longer."""

from samples import TRIANGLE

LAID = (("put", 0, 0, (0, 1)), ("put", 0, 1, (2, 0)), ("cancel", 1), ("put", 2, 2, (1, 2)))
UNDONE = (*LAID, ("cancel", 1), ("cancel", 0))


def own_step(book, row, step):
    """The row behind a step by the words of [12.1], or None if it cannot be done."""
    word, at, *more = step
    row = list(row)
    if word == "put":
        if at > len(row) or len(row) + len(more[1]) > 200:
            return None
        return tuple(row[:at] + list(more[1]) + row[at:])
    if at + 1 >= len(row):
        return None
    if word == "cancel":
        if row[at] != row[at + 1]:
            return None
        del row[at:at + 2]
        return tuple(row)
    members = book.sayings[more[0]][0]
    if row[at] == row[at + 1] or row[at] not in members or row[at + 1] not in members:
        return None
    row[at], row[at + 1] = row[at + 1], row[at]
    return tuple(row)


def own_walk_steps(book, row, steps):
    """The row behind the steps, or the index of the first one that cannot be done."""
    for index, step in enumerate(steps):
        row = own_step(book, row, step)
        if row is None:
            return index
    return row


def own_rows(book, row, steps):
    """All rows, the first one and those behind each step."""
    rows = [row]
    for step in steps:
        rows.append(own_step(book, rows[-1], step))
    return rows


def own_sum(book, steps):
    """The sum of the bits of all sayings put."""
    return sum(book.sayings[step[2]][1] for step in steps if step[0] == "put") % 2


def own_lot(steps):
    """The sayings put an odd number of times."""
    puts = [step[2] for step in steps if step[0] == "put"]
    return tuple(sorted(s for s in set(puts) if puts.count(s) % 2))


def own_is_undoing(book, steps):
    """By the words of [12.3]."""
    return own_walk_steps(book, (), steps) == () and own_sum(book, steps) == 1


def some_steps(chance, book, row, many, most):
    """Whatever steps that can be done, with rows of at most so many unknowns."""
    found = []
    for _ in range(many):
        free = [("cancel", at) for at in range(len(row) - 1) if row[at] == row[at + 1]]
        free += [("swap", at, s) for at in range(len(row) - 1) for s, (members, _) in enumerate(book.sayings)
                 if row[at] != row[at + 1] and row[at] in members and row[at + 1] in members]
        s = chance.randrange(len(book.sayings))
        members = book.sayings[s][0]
        if len(row) + len(members) <= most and (not free or chance.randrange(2)):
            free = [("put", chance.randint(0, len(row)), s, tuple(chance.sample(members, len(members))))]
        if not free:
            break
        found.append(chance.choice(free))
        row = own_step(book, row, found[-1])
    return tuple(found), row


def moved(steps, by):
    """The steps at places further behind."""
    return tuple((step[0], step[1] + by, *step[2:]) for step in steps)


def with_swaps(chance, steps):
    """The steps with each put in another sequence of its members, which swaps put right."""
    found = []
    for step in steps:
        if step[0] != "put":
            found.append(step)
            continue
        _, at, s, members = step
        row = chance.sample(members, len(members))
        found.append(("put", at, s, tuple(row)))
        for place, e in enumerate(members):
            for k in range(row.index(e), place, -1):
                row[k - 1], row[k] = row[k], row[k - 1]
                found.append(("swap", at + k - 1, s))
    return tuple(found)


assert own_is_undoing(TRIANGLE, UNDONE)
