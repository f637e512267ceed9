"""Vectors: how many of the others' marks stand ahead of each of ours; and the same question in other orders."""

from marksinturn.errors import BadPlace
from marksinturn.questions import Question, need_question
from marksinturn.refusals import BadVector
from marksinturn.shapes import is_below, is_list


def vector_of(question):
    """How many others stand ahead of each of our marks, in order."""
    need_question(question)
    vector = []
    others = 0
    for hand in question.hands:
        if hand == "we":
            vector.append(others)
        else:
            others += 1
    return vector


def first_wrong_number(vector, ours, others):
    """The index that BadVector keeps for numbers up to how many others there are, for each of ours; None if right."""
    if not is_list(vector):
        return 0
    for index, number in enumerate(vector):
        if not is_below(number, others + 1):
            return index
    return None if len(vector) == ours else ours


def moved(question, vector):
    """The question with as many others ahead of each of our marks as a vector says."""
    need_question(question)
    ours = [mark for mark in question.marks() if mark[1] == "we"]
    others = [mark for mark in question.marks() if mark[1] != "we"]
    wrong = first_wrong_number(vector, len(ours), len(others))
    if wrong is not None:
        raise BadVector(wrong)
    marks = []
    for many in range(len(others) + 1):
        marks.extend([mark for mark, number in zip(ours, vector) if number == many])
        marks.extend(others[many:many + 1])
    return Question(marks, question.wish_lists, question.guard_lists)


def exchanged(question, place):
    """The question in which the marks at a place and behind it have changed places."""
    need_question(question)
    if not is_below(place, len(question.names) - 1):
        raise BadPlace(place)
    marks = question.marks()
    marks[place:place + 2] = [marks[place + 1], marks[place]]
    return Question(marks, question.wish_lists, question.guard_lists)
