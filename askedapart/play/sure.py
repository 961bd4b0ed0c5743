"""Players who share qubits: what can come, the chances, and who wins all questions for sure."""

from math import gcd

from askedapart.base.bits import put_apart, solved_masks
from askedapart.base.checks import has_form, has_size, is_bit, is_bit_for_each, is_index
from askedapart.errors import InvalidOperation, InvalidOperator
from askedapart.play.games import all_questions
from askedapart.play.pairs import do_all_commute
from askedapart.say.books import check_book, check_saying, check_unknown
from askedapart.sign.answers import check_operators_for, check_right
from askedapart.sign.operators import are_operators, is_one
from askedapart.sign.sums import does_keep, rows_keeping, sure_sums


def are_told_players(book, value):
    """Whether the value is players of what is known to be a book."""
    many = len(book.sayings)
    if not has_size(value, 2, 2) or not has_size(value[0], many, many):
        return False
    firsts, seconds = value
    if not are_operators(seconds, book.many, book.many):
        return False
    sizes = [len(members) for members, _ in book.sayings]
    if not all([are_operators(row, size, size) for row, size in zip(firsts, sizes)]):
        return False
    return all([len(row[0]) == len(seconds[0]) and do_all_commute(row) for row in firsts])


def are_players(book, value):
    """Whether the value is players."""
    check_book(book)
    return are_told_players(book, value)


def check_players(book, players):
    """The errors of a book with players of it."""
    if not are_players(book, players):
        raise InvalidOperator("players are a pair of commuting operators for each saying, and one for each unknown")


def check_asked(book, players, saying, unknown):
    """The errors of players who are asked a saying and an unknown."""
    check_players(book, players)
    check_saying(book, saying)
    check_unknown(book, unknown)


def sums_for(players, saying, unknown):
    """The sums that are sure for the bits of a saying and, behind them, that of an unknown."""
    return sure_sums((*players[0][saying], players[1][unknown]))


def pairs_coming(book, players, saying, unknown):
    """The ascending tuple of all pairs (bits, bit) that can come."""
    rows = rows_keeping(sums_for(players, saying, unknown), len(book.sayings[saying][0]) + 1)
    return tuple([(row[:-1], row[-1]) for row in rows])


def can_come(book, players, saying, unknown):
    """The ascending tuple of all pairs (bits, bit) that can come."""
    check_asked(book, players, saying, unknown)
    return pairs_coming(book, players, saying, unknown)


def is_told_pair(book, saying, value):
    """Whether the value is a pair of a bit for each member of a saying, and of a bit."""
    if not has_size(value, 2, 2) or not is_bit(value[1]):
        return False
    return is_bit_for_each(value[0], len(book.sayings[saying][0]))


def chance(book, players, saying, unknown, told):
    """The chance of what both tell."""
    check_asked(book, players, saying, unknown)
    if not is_told_pair(book, saying, told):
        raise InvalidOperation("a pair of a bit for each member and of a bit is asked for")
    sums = sums_for(players, saying, unknown)
    row = (*told[0], told[1])
    return (1, 1 << (len(row) - len(sums))) if does_keep(sums, row) else (0, 1)


def second_chance(book, players, unknown):
    """The chance that the second one tells 0."""
    check_players(book, players)
    check_unknown(book, unknown)
    operator = players[1][unknown]
    if not is_one(operator):
        return (1, 2)
    return (1, 1) if operator[0] == "+" else (0, 1)


def told_win_chance(book, players, question):
    """The chance to win a question."""
    saying, unknown = question
    members, bit = book.sayings[saying]
    sums = sums_for(players, saying, unknown)
    # Wanted are the sum of the saying, and equal bits of both for the unknown.
    wanted = [((1 << len(members)) - 1, bit), ((1 << members.index(unknown)) | (1 << len(members)), 0)]
    picks = [pick for pick, _ in sums + wanted]
    word, _ = solved_masks(picks, sum([goal << at for at, (_, goal) in enumerate(sums + wanted)]))
    kept, _ = put_apart(picks)
    return (0, 1) if word == "bar" else (1, 1 << (len(kept) - len(sums)))


def win_chance(book, players, saying, unknown):
    """The chance to win the question of a saying and an unknown of it."""
    check_asked(book, players, saying, unknown)
    if unknown not in book.sayings[saying][0]:
        raise InvalidOperation("the saying does not have the unknown")
    return told_win_chance(book, players, (saying, unknown))


def all_chance(book, players):
    """The chance to win if each question is as likely as another one."""
    check_players(book, players)
    chances = [told_win_chance(book, players, question) for question in all_questions(book)]
    # Each chance is a number of quarters.
    won, played = sum([4 * top // bottom for top, bottom in chances]), 4 * len(chances)
    shared = gcd(won, played)
    return won // shared, played // shared


def sure_players(book, operators):
    """The players who measure just these right operators."""
    check_operators_for(book, operators)
    check_right(book, operators)
    return tuple([tuple([operators[e] for e in members]) for members, _ in book.sayings]), operators


def does_lose(book, saying, unknown, bits, bit):
    """Whether what both tell loses the question of a saying and an unknown of it."""
    members, wanted = book.sayings[saying]
    return sum(bits) & 1 != wanted or bits[members.index(unknown)] != bit


def unsure_questions(book, players):
    """The list of the questions that are not won for sure."""
    return [question for question in all_questions(book) if told_win_chance(book, players, question) != (1, 1)]


def sure_or_lost(book, players):
    """("sure",) if all questions are won for sure, or ("lost", saying, unknown, bits, bit) that can come and loses."""
    check_players(book, players)
    for saying, unknown in unsure_questions(book, players):
        for bits, bit in pairs_coming(book, players, saying, unknown):
            if does_lose(book, saying, unknown, bits, bit):
                return ("lost", saying, unknown, bits, bit)
    return ("sure",)


def is_lost(book, players, saying, unknown, told):
    """Whether these are a question, and what can come and loses it."""
    if not is_index(saying, len(book.sayings)) or not is_index(unknown, book.many):
        return False
    if unknown not in book.sayings[saying][0] or not is_told_pair(book, saying, told):
        return False
    bits, bit = told
    return does_keep(sums_for(players, saying, unknown), (*bits, bit)) and does_lose(book, saying, unknown, bits, bit)


def is_sure_or_lost(book, players, value):
    """Whether the value is what sure_or_lost may return."""
    check_players(book, players)
    if has_form(value, "sure", 1):
        return unsure_questions(book, players) == []
    return has_form(value, "lost", 5) and is_lost(book, players, value[1], value[2], value[3:])
