"""The value of positions, what sets it, and what is left to set."""

from marksinturn.errors import BadPlace, NoneSets
from marksinturn.literals import clauses_of, position_code
from marksinturn.numbersof import fraction_of, whole_of
from marksinturn.positions import need_position
from marksinturn.questions import Question, need_question
from marksinturn.shapes import is_below
from marksinturn.tables import position_at, worth_levels


def worth_of(question, position):
    """The value of a position."""
    need_question(question)
    need_position(question, position)
    levels = worth_levels(question, position, {})
    return fraction_of(levels[0][0], whole_of(question))


def worths(question):
    """The dict from all positions, as tuples, the shorter ahead, to their values."""
    need_question(question)
    whole = whole_of(question)
    found = {}
    for length, level in enumerate(worth_levels(question, [], {})):
        for index, part in enumerate(level):
            found[tuple(position_at(length, index))] = fraction_of(part, whole)
    return found


def right_truths(question, position):
    """The truths of the next mark behind which the value is the position's; of chance both."""
    need_question(question)
    need_position(question, position)
    if len(position) == len(question.names):
        raise NoneSets(position)
    if not isinstance(question.hands[len(position)], str):
        return [False, True]
    levels = worth_levels(question, position, {})
    return [side == 1 for side in (0, 1) if levels[1][side] == levels[0][0]]


def rest_codes(question, position):
    """The codes of the wishes and of the guards that are left at a position, without set marks."""
    code = position_code(position)
    if any([not turn & ~code for turn in question.guard_turns]):
        return (), ()
    width = 2 * len(position)
    return left_codes(question.wish_codes, code, width), left_codes(question.guard_codes, code, width)


def left_codes(clauses, code, width):
    """Those of the clauses that do not hold by a code, moved down by its width, each once."""
    left = {}
    for clause in clauses:
        if not clause & code:
            left[clause >> width] = True
    return tuple(left)


def rest_question(question, place, rest):
    """The question of the marks from a place on and of a rest's clauses."""
    names = question.names[place:]
    wishes, guards = rest
    marks = list(zip(names, question.hands[place:]))
    return Question(marks, clauses_of(names, wishes), clauses_of(names, guards))


def rest_of(question, position):
    """The question of what is left at a position."""
    need_question(question)
    need_position(question, position)
    return rest_question(question, len(position), rest_codes(question, position))


def rests(question, place):
    """The unlike rests of the positions of a length, each with its value."""
    need_question(question)
    if not is_below(place, len(question.names) + 1):
        raise BadPlace(place)
    level = worth_levels(question, [], {})[place]
    parts = {}
    for index, part in enumerate(level):
        rest = rest_codes(question, position_at(place, index))
        if rest not in parts:
            parts[rest] = part
    whole = whole_of(question)
    return [
        (rest_question(question, place, rest), fraction_of(part, whole))
        for rest, part in parts.items()
    ]
