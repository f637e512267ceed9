"""How to play by free rows: by the first one that speaks where the next mark is set."""

from marksinturn.chancefree import need_no_chance
from marksinturn.errors import BadPosition
from marksinturn.freejudging import dropped_place, need_free
from marksinturn.literals import literals_of, position_code
from marksinturn.positions import need_position
from marksinturn.tables import marks_by


def rows_hand(right):
    """The hand that wins by free rows."""
    return "they" if right.rows[0][0] == "lost" else "we"


def drops_of(right):
    """For each drop its mark's place, the code that has to be for, and the truth that it asks for there."""
    found = []
    for row, code in zip(right.rows, right.codes):
        how = row[2]
        if how[0] == "drop":
            whole = right.codes[how[1]]
            place = dropped_place(whole)
            found.append((place, code, whole >> (2 * place) & 2 == 2))
    return found


def policy_by(right):
    """The policy of the rows' hand that does at each position what the first drop that speaks there asks for."""
    question = right.question
    drops = drops_of(right)
    found = {}
    for place in marks_by(question, rows_hand(right)):
        found[question.names[place]] = [
            (literals_of(question.names, code), truth) for at, code, truth in drops if at == place
        ]
    return found


def first_truth(question, free, position):
    """The truth of the next mark that the first row which speaks there asks for; False without one."""
    need_no_chance(question)
    right = need_free(question, free)
    need_position(question, position)
    place = len(position)
    if place == len(question.names) or question.hands[place] != rows_hand(right):
        raise BadPosition(position)
    here = position_code(position)
    for at, code, truth in drops_of(right):
        if at == place and not code & ~here:
            return truth
    return False


def first_policy(question, free):
    """The policy of the rows' hand that plays so."""
    need_no_chance(question)
    return policy_by(need_free(question, free))
