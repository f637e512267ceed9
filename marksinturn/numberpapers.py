"""Papers: lists of rows, each right by the question and the rows ahead of it."""

from marksinturn.judging import judged, need_paper
from marksinturn.literals import position_code
from marksinturn.numberrows import does_code_tell
from marksinturn.positions import need_position
from marksinturn.questions import need_question


def paper_fault(question, thing):
    """None for a paper, else the index of the first thing that is wrong, and why it is."""
    need_question(question)
    _, fault = judged(question, thing)
    return fault


def is_paper(question, thing):
    """Whether an object is a paper of the question."""
    return paper_fault(question, thing) is None


def telling(question, paper, position):
    """The ascending indexes of the rows that tell of a position."""
    need_question(question)
    right = need_paper(question, paper)
    need_position(question, position)
    here = position_code(position)
    return [
        index
        for index, (row, code) in enumerate(zip(right.rows, right.codes))
        if does_code_tell(row[1], code, position, here)
    ]
