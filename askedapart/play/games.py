"""Players with plain signs: the questions that their plans lose, and mixes of plans."""

from math import gcd

from askedapart.base.checks import has_size, is_bit_for_each, is_integer
from askedapart.errors import InvalidBits, InvalidOperation
from askedapart.main.lifts import check_lone
from askedapart.say.books import check_book
from askedapart.say.signs import check_tried, fewest, fewest_signs, is_true, signs_for

MOST_TRIED = 12
MOST_PLANS = 400
MOST_WEIGHT = 1000


def all_questions(book):
    """The ascending tuple of all questions of what is known to be a book."""
    return tuple([(saying, e) for saying, (members, _) in enumerate(book.sayings) for e in members])


def questions(book):
    """The ascending tuple of all questions."""
    check_book(book)
    return all_questions(book)


def is_row_for(value, saying):
    """Whether the value is a bit for each member of a saying, with the sum of its bit."""
    members, bit = saying
    return is_bit_for_each(value, len(members)) and sum(value) & 1 == bit


def is_told_plan(book, value):
    """Whether the value is a plan of what is known to be a book."""
    many = len(book.sayings)
    if not has_size(value, 2, 2) or not has_size(value[0], many, many) or not is_bit_for_each(value[1], book.many):
        return False
    return all([is_row_for(row, saying) for row, saying in zip(value[0], book.sayings)])


def is_plan(book, value):
    """Whether the value is a plan of the book."""
    check_book(book)
    return is_told_plan(book, value)


def lost_by(book, plan):
    """The ascending tuple of the questions that a plan loses."""
    rows, bits = plan
    return tuple([(saying, e) for saying, (members, _) in enumerate(book.sayings)
                  for e, bit in zip(members, rows[saying]) if bit != bits[e]])


def lost(book, plan):
    """The ascending tuple of the lost questions."""
    if not is_plan(book, plan):
        raise InvalidOperation("no plan of the book")
    return lost_by(book, plan)


def row_losing(saying, signs, unknown):
    """The bits of the members of a saying by signs, but the other one for this unknown; None stands for none."""
    return tuple([signs[e] ^ int(e == unknown) for e in saying[0]])


def plan_with(book, signs, unknowns):
    """The plan with these bits, in which the rows lose a question each as the unknowns tell."""
    return tuple([row_losing(saying, signs, e) for saying, e in zip(book.sayings, unknowns)]), signs


def told_plan(book, signs):
    """The plan by signs that loses in each false saying the question of its least unknown."""
    return plan_with(book, signs, [None if is_true(saying, signs) else saying[0][0] for saying in book.sayings])


def plan_by(book, signs):
    """The plan with these bits that loses in each false saying the question of its least unknown, and no other one."""
    check_book(book)
    if not is_bit_for_each(signs, book.many):
        raise InvalidBits("signs are a tuple of a bit for each unknown")
    return told_plan(book, signs)


def fewest_lost(book):
    """The fewest questions that plans lose: as many as the fewest sayings that are false for any signs."""
    return fewest(book)


def best_plan(book):
    """A plan that loses as few questions as any."""
    return told_plan(book, fewest_signs(book))


def is_best_plan(book, value):
    """Whether the value is what best_plan may return."""
    check_tried(book)
    return is_told_plan(book, value) and len(lost_by(book, value)) == fewest(book)


def check_question(book, question):
    """The errors of a book with a question of it; then what is refused to all but odd books in one piece."""
    check_book(book)
    if not has_size(question, 2, 2) or not all([is_integer(at) for at in question]):
        raise InvalidOperation("a question is a pair of a saying and an unknown of it")
    if question not in all_questions(book):
        raise InvalidOperation("no question of the book")
    check_lone(book)


def plan_losing(book, question):
    """A plan of a paired book in one piece, with an odd sum, that loses just this question."""
    unknowns = [question[1] if saying == question[0] else None for saying in range(len(book.sayings))]
    return plan_with(book, signs_for(book, (question[0],)), unknowns)


def losing(book, question):
    """A plan that loses just this question."""
    check_question(book, question)
    return plan_losing(book, question)


def is_losing(book, question, value):
    """Whether the value is what losing may return."""
    check_question(book, question)
    return is_told_plan(book, value) and lost_by(book, value) == (question,)


def is_weighted(book, value):
    """Whether the value is a pair of a weight and a plan."""
    if not has_size(value, 2, 2) or not is_integer(value[0]) or not 1 <= value[0] <= MOST_WEIGHT:
        return False
    return is_told_plan(book, value[1])


def is_mix(book, value):
    """Whether the value is a mix of 1 to 400 plans with their weights."""
    return has_size(value, 1, MOST_PLANS) and all([is_weighted(book, pair) for pair in value])


def chance_of(book, mix):
    """The least chance of a mix."""
    missed = {question: 0 for question in all_questions(book)}
    for weight, plan in mix:
        for question in lost_by(book, plan):
            missed[question] = missed[question] + weight
    played = sum([weight for weight, _ in mix])
    won = played - max(list(missed.values()))
    shared = gcd(won, played)
    return won // shared, played // shared


def least_chance(book, mix):
    """The chance with which the question won least often is won."""
    check_book(book)
    if not is_mix(book, mix):
        raise InvalidOperation("a mix is a tuple of 1 to 400 pairs of a weight from 1 to 1000 and a plan")
    check_lone(book)
    return chance_of(book, mix)


def best_mix(book):
    """A mix with the greatest least chance: for each question a plan that loses it alone."""
    check_lone(book)
    return tuple([(1, plan_losing(book, question)) for question in all_questions(book)])


def is_best_mix(book, value):
    """Whether the value is what best_mix may return."""
    check_lone(book)
    many = len(all_questions(book))
    return is_mix(book, value) and chance_of(book, value) == (many - 1, many)
