"""How early each of ours has to be set: vectors that are enough, and such that are too early."""

from marksinturn.errors import BadNumber
from marksinturn.numbersof import is_fraction
from marksinturn.ordervalues import VectorValues, greatest_vectors, least_vectors
from marksinturn.questions import need_question
from marksinturn.tables import marks_by
from marksinturn.vectors import exchanged, moved, vector_of
from marksinturn.worth import worth_of


def need_number(question, number):
    """Raise BadQuestion for no question, BadNumber for no fraction from nought to one."""
    need_question(question)
    if not is_fraction(number):
        raise BadNumber(number)


def parted_vectors(question, number):
    """The least vectors by which the value is at least a number, and the greatest ones by which it is less."""
    p, q = number
    values = VectorValues(question)
    highs = [vector for vector, part in values.parts.items() if part * q >= p * values.whole]
    lows = [vector for vector, part in values.parts.items() if part * q < p * values.whole]
    return least_vectors(highs), greatest_vectors(lows)


def enough(question, number):
    """The least vectors by which the value is at least a number, ascending."""
    need_number(question, number)
    least, _ = parted_vectors(question, number)
    return least


def too_early(question, number):
    """The greatest vectors by which the value is less than a number, ascending."""
    need_number(question, number)
    _, greatest = parted_vectors(question, number)
    return greatest


def later_worths(question):
    """The dict from our marks to the values where each alone is moved, for each place from its own one on."""
    own = vector_of(question)
    many = len(question.names) - len(own)
    found = {}
    for at, place in enumerate(marks_by(question, "we")):
        vectors = [own[:at] + [number] + own[at + 1:] for number in range(own[at], many + 1)]
        found[question.names[place]] = [worth_of(moved(question, vector), []) for vector in vectors]
    return found


def worth_moved(question, place):
    """The pair of the values, as it is, and where the marks at a place and behind it have changed places."""
    other = exchanged(question, place)
    return (worth_of(question, []), worth_of(other, []))
