"""Rows made anew."""

from marksinturn.errors import BadHow, BadKind, BadLiterals, BadPlace, BadWord
from marksinturn.judging import START_KINDS, RightRows, need_paper, told_row
from marksinturn.literals import literal_list
from marksinturn.numberrows import STARTS, is_kind, is_led_how, tell_code
from marksinturn.questions import need_question
from marksinturn.shapes import is_below


def start_row(question, word, literals):
    """The start row of a word with these literals; None if they are not such."""
    need_question(question)
    if not isinstance(word, str) or word not in STARTS:
        raise BadWord(word)
    lot = literal_list(question.places, literals)
    if lot is None:
        raise BadLiterals(literals)
    kind = START_KINDS[word]
    place = len(question.names)
    code = tell_code(question, kind, lot)
    wrong, part = RightRows(question).start_part(kind, place, word, code)
    if wrong is not None:
        return None
    return told_row(question, kind, place, code, part, (word,))


def next_row(question, paper, kind, place, how):
    """The row of this kind and place that a drop or a join makes behind a paper; None if none is right."""
    need_question(question)
    right = need_paper(question, paper)
    if not is_kind(kind):
        raise BadKind(kind)
    if not is_below(place, len(question.names)):
        raise BadPlace(place)
    if not is_led_how(how):
        raise BadHow(how)
    wrong, code, part = right.led_part(kind, place, how)
    if wrong is not None:
        return None
    return told_row(question, kind, place, code, part, how)
