"""Rows: of what positions they tell a number that the value is at most, or at least."""

from marksinturn.errors import BadRow
from marksinturn.literals import are_in_order, code_of, literal_list, position_code, turned_code
from marksinturn.numbersof import is_fraction
from marksinturn.positions import need_position
from marksinturn.questions import need_question
from marksinturn.shapes import is_below, is_count, is_tuple_of

STARTS = ("lost", "won", "any", "none")


def is_kind(thing):
    """Whether an object is the kind of a row."""
    return isinstance(thing, str) and thing in ("most", "least")


def is_led_how(thing):
    """Whether an object is a drop or a join of rows that it names by numbers."""
    if is_tuple_of(thing, 2):
        word = "drop"
    elif is_tuple_of(thing, 3):
        word = "join"
    else:
        return False
    if not isinstance(thing[0], str) or thing[0] != word:
        return False
    return all([is_count(index) for index in thing[1:]])


def is_how(thing):
    """Whether an object is one of the ways in which rows are made."""
    if is_tuple_of(thing, 1):
        return isinstance(thing[0], str) and thing[0] in STARTS
    return is_led_how(thing)


def plain_row(question, thing):
    """The row that an object is, as rows are told; None if it has not the form of one."""
    if not is_tuple_of(thing, 5):
        return None
    kind, place, lot, number, how = thing
    literals = placed_literals(question, place, lot)
    if not is_kind(kind) or literals is None or not is_fraction(number) or not is_how(how):
        return None
    return (kind, place, literals, tuple(number), tuple(how))


def placed_literals(question, place, lot):
    """The literals of a lot, in the marks' order and all ahead of a place; None if either one is not so."""
    if not is_below(place, len(question.names) + 1):
        return None
    literals = literal_list(question.places, lot)
    if literals is None or not are_in_order(question.places, literals):
        return None
    if literals and question.places[literals[-1][0]] >= place:
        return None
    return literals


def tell_code(question, kind, literals):
    """The code of what has to be for where a row with these literals tells: of most rows the other truths."""
    if kind == "most":
        return turned_code(question.places, literals)
    return code_of(question.places, literals)


def does_code_tell(place, code, position, here):
    """Whether a row with a place and a code tells of a position, whose code is passed, too."""
    return len(position) <= place and not code & ~here


def is_row(question, thing):
    """Whether an object has the form of a row."""
    need_question(question)
    return plain_row(question, thing) is not None


def does_tell(question, row, position):
    """Whether a row tells of a position."""
    need_question(question)
    plain = plain_row(question, row)
    if plain is None:
        raise BadRow(row)
    need_position(question, position)
    kind, place, literals, _, _ = plain
    code = tell_code(question, kind, literals)
    return does_code_tell(place, code, position, position_code(position))
