"""What a paper tells of positions, and how to play by it."""

from marksinturn.bestrows import best_first, best_index, kind_of, moved_by, need_kind, next_move, told_number
from marksinturn.functions import need_side
from marksinturn.judging import need_paper
from marksinturn.literals import literals_of
from marksinturn.positions import need_play, need_position
from marksinturn.questions import need_question
from marksinturn.tables import marks_by


def need_asked_row(question, paper, kind, position):
    """The right rows of a paper; what is due is raised, also of a kind and a position."""
    need_question(question)
    right = need_paper(question, paper)
    need_kind(kind)
    need_position(question, position)
    return right


def best_row(question, paper, kind, position):
    """The index of the row of a kind that tells the best number of a position; None without one."""
    right = need_asked_row(question, paper, kind, position)
    return best_index(right, kind, position)


def told_at(question, paper, kind, position):
    """The best number that rows of a kind tell of a position."""
    right = need_asked_row(question, paper, kind, position)
    return told_number(right, kind, position)


def read_move(question, paper, position):
    """The truth that whoever sets the next mark sets by the paper; None for chance, and at the end."""
    need_question(question)
    right = need_paper(question, paper)
    need_position(question, position)
    return next_move(right, position)


def goes_by(question, paper, hand, play):
    """Whether a hand sets each of its marks in a play by the paper."""
    need_question(question)
    right = need_paper(question, paper)
    need_side(hand)
    need_play(question, play)
    for place in marks_by(question, hand):
        if next_move(right, play[:place]) != play[place]:
            return False
    return True


def read_policy(question, paper, hand):
    """The policy of a hand that sets what the paper tells."""
    need_question(question)
    right = need_paper(question, paper)
    need_side(hand)
    kind = kind_of(hand)
    indexes = [index for index, row in enumerate(right.rows) if row[0] == kind]
    ordered = best_first(right, kind, indexes)
    return {question.names[place]: read_function(right, ordered, place) for place in marks_by(question, hand)}


def read_function(right, ordered, place):
    """The function of the mark at a place, by the rows that can tell there, best first."""
    pairs = []
    stood = set()
    for index in ordered:
        code = right.codes[index]
        if right.rows[index][1] < place or code >> (2 * place) or code in stood:
            continue
        stood.add(code)
        pairs.append((literals_of(right.question.names, code), moved_by(right, index, place)))
        if code == 0:
            break
    return pairs
