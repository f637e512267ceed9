"""Positions: the truths of a question's first marks; plays: those of all."""

from marksinturn.certainty import is_lost_code, is_won_code
from marksinturn.errors import BadPlay, BadPosition
from marksinturn.literals import position_code
from marksinturn.questions import need_question
from marksinturn.shapes import is_list


def are_first_truths(question, thing):
    """Whether an object is a list of truths of first marks."""
    if not is_list(thing) or len(thing) > len(question.names):
        return False
    return all([isinstance(truth, bool) for truth in thing])


def are_all_truths(question, thing):
    """Whether an object is a list of the truths of all marks."""
    return are_first_truths(question, thing) and len(thing) == len(question.names)


def need_position(question, position):
    """Raise BadPosition for what is no position."""
    if not are_first_truths(question, position):
        raise BadPosition(position)


def need_play(question, play):
    """Raise BadPlay for what is no play."""
    if not are_all_truths(question, play):
        raise BadPlay(play)


def is_position(question, thing):
    """Whether an object is a position of the question."""
    need_question(question)
    return are_first_truths(question, thing)


def is_play(question, thing):
    """Whether an object is a play of the question."""
    need_question(question)
    return are_all_truths(question, thing)


def set_at(question, position):
    """The dict from the marks that are set at a position to their truths."""
    need_question(question)
    need_position(question, position)
    return {name: truth for name, truth in zip(question.names, position)}


def is_won(question, play):
    """Whether some guard does not hold in a play, or all wishes do."""
    need_question(question)
    need_play(question, play)
    return is_won_code(question, position_code(play))


def decider(question, play):
    """The first guard that does not hold in a play, else the first such wish, else None."""
    need_question(question)
    need_play(question, play)
    code = position_code(play)
    for index, guard in enumerate(question.guard_codes):
        if not guard & code:
            return ("guard", index)
    for index, wish in enumerate(question.wish_codes):
        if not wish & code:
            return ("wish", index)
    return None


def certain(question, position):
    """The word lost or won where a position's truths tell it already; None else."""
    need_question(question)
    need_position(question, position)
    code = position_code(position)
    if is_lost_code(question, code):
        return "lost"
    if is_won_code(question, code):
        return "won"
    return None
