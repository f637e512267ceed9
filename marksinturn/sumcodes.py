"""Sums as codes: a bit for each mark, and the lowest one for the truth.

So sums are added up by one sign, and the last mark of a sum has the highest
bit. A lot of sums is a code, too, with a bit for each index.
"""

from marksinturn.errors import BadMarks, BadSums, NotFair
from marksinturn.questions import first_wrong_mark
from marksinturn.shapes import is_below, is_list, is_name, is_tuple_of

# The code of the sum without marks that never holds.
NEVER = 1


def is_sum(thing):
    """Whether an object is a pair of a list of unlike names and a truth."""
    if not is_tuple_of(thing, 2) or not is_list(thing[0]) or not isinstance(thing[1], bool):
        return False
    return all([is_name(name) for name in thing[0]]) and len(set(thing[0])) == len(thing[0])


def mark_bit(place):
    """The bit of the mark at a place."""
    return 2 << place


def sum_code(places, thing):
    """The code of the sum of marks that have places, or of the answer, that an object is; None if it is none."""
    if not is_sum(thing) or any([name not in places for name in thing[0]]):
        return None
    return int(thing[1]) + sum([mark_bit(places[name]) for name in thing[0]])


def told_sum(names, code):
    """The sum with a code, its marks in the order of their places."""
    return ([name for place, name in enumerate(names) if code & mark_bit(place)], code & 1 == 1)


def need_sums(names, sums):
    """The codes of sums of marks, each one's in their order; BadSums is raised for the first thing that is none."""
    if not is_list(sums):
        raise BadSums(0)
    places = {name: place for place, name in enumerate(names)}
    codes = []
    for index, one in enumerate(sums):
        code = sum_code(places, one)
        if code is None or told_sum(names, code)[0] != list(one[0]):
            raise BadSums(index)
        codes.append(code)
    return codes


def need_fair(marks):
    """Raise BadMarks for what are no marks, NotFair for the first of which chance says Yes not every second time."""
    wrong = first_wrong_mark(marks)
    if wrong is not None:
        raise BadMarks(wrong)
    for index, (_, hand) in enumerate(marks):
        if not isinstance(hand, str) and hand[1] != 2 * hand[0]:
            raise NotFair(index)


def last_place(code):
    """The place of the last mark of a sum that has one."""
    return code.bit_length() - 2


def added_up(codes, indexes):
    """The code of what the sums with these indexes make together."""
    code = 0
    for index in indexes:
        code ^= codes[index]
    return code


def is_lot(thing, many):
    """Whether an object is an ascending list of unlike indexes of so many sums."""
    if not is_list(thing) or not all([is_below(index, many) for index in thing]):
        return False
    return list(thing) == sorted(set(thing))


def lot_indexes(lot):
    """The ascending indexes of a lot."""
    return [index for index in range(lot.bit_length()) if lot >> index & 1]


def neat_rows(codes):
    """The neat sums of sums, each with a lot of which it is added up."""
    rows = {}
    for index, code in enumerate(codes):
        lot = 1 << index
        while code > NEVER and code.bit_length() in rows:
            other, others = rows[code.bit_length()]
            code ^= other
            lot ^= others
        if code == NEVER:
            return [(code, lot)]
        if code:
            rows[code.bit_length()] = (code, lot)
    found = []
    for width in sorted(rows):
        code, lot = rows[width]
        for other, others in found:
            if code >> (other.bit_length() - 1) & 1:
                code ^= other
                lot ^= others
        found.append((code, lot))
    return found
