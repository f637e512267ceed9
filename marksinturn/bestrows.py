"""The best rows of right ones, at positions and for marks."""

from marksinturn.errors import BadKind
from marksinturn.literals import position_code
from marksinturn.numberrows import does_code_tell, is_kind
from marksinturn.numbersof import fraction_of


def need_kind(kind):
    """Raise BadKind for neither most nor least."""
    if not is_kind(kind):
        raise BadKind(kind)


def best_first(right, kind, indexes):
    """The indexes of rows of a kind, the ones that say most ahead, of like ones the first in the list."""
    if kind == "most":
        return sorted(indexes, key=lambda index: (right.parts[index], index))
    return sorted(indexes, key=lambda index: (-right.parts[index], index))


def best_index(right, kind, position):
    """The index of the best row of a kind that tells of a position; None without one."""
    here = position_code(position)
    found = [
        index
        for index, (row, code) in enumerate(zip(right.rows, right.codes))
        if row[0] == kind and does_code_tell(row[1], code, position, here)
    ]
    if not found:
        return None
    parts = [right.parts[index] for index in found]
    best = min(parts) if kind == "most" else max(parts)
    return found[parts.index(best)]


def told_part(right, kind, position):
    """The parts that the best row of a kind tells of a position; all of most, none of least without one."""
    index = best_index(right, kind, position)
    if index is not None:
        return right.parts[index]
    return right.whole if kind == "most" else 0


def told_number(right, kind, position):
    """The number that the best row of a kind tells of a position."""
    return fraction_of(told_part(right, kind, position), right.whole)


def kind_of(hand):
    """The kind of the rows by which a hand plays; None for chance."""
    if hand == "we":
        return "least"
    if hand == "they":
        return "most"
    return None


def moved_by(right, index, place):
    """The truth that a row lets its hand set at a place; No if it says nothing of it."""
    if index is None or right.rows[index][1] != place or right.rows[index][4][0] != "drop":
        return False
    dropped = right.codes[right.rows[index][4][1]]
    return dropped >> (2 * place) & 2 == 2


def next_move(right, position):
    """The truth that is set next by the best row; None where no hand sets by rows."""
    place = len(position)
    if place == right.length:
        return None
    kind = kind_of(right.question.hands[place])
    if kind is None:
        return None
    return moved_by(right, best_index(right, kind, position), place)
