"""How to play for sums, and lots of sums that bar it."""

from marksinturn.marksums import neat_of
from marksinturn.refusals import BadAnswer
from marksinturn.sumcodes import (
    NEVER,
    added_up,
    is_lot,
    is_sum,
    last_place,
    lot_indexes,
    mark_bit,
    need_fair,
    need_sums,
    told_sum,
)
from marksinturn.tables import position_at


def sums_played(marks, sums):
    """The dict from our marks to answers: what its neat sum asks of a last mark, No of each other one."""
    asked = {last_place(code): code for code, _ in neat_of(marks, sums) if code != NEVER}
    names = [mark[0] for mark in marks]
    found = {}
    for place, name in enumerate(names):
        if marks[place][1] == "we":
            found[name] = told_sum(names, asked.get(place, mark_bit(place)) ^ mark_bit(place))
    return found


def is_barred(marks, code):
    """Whether a sum with a code never holds, or its last mark is theirs."""
    if code <= NEVER:
        return code == NEVER
    return marks[last_place(code)][1] == "they"


def sums_lot(marks, sums):
    """Indexes of sums that, added up, never hold, or have a last mark of theirs; None if there are none."""
    for code, lot in neat_of(marks, sums):
        if is_barred(marks, code):
            return lot_indexes(lot)
    return None


def is_sums_lot(marks, sums, thing):
    """Whether an object is such a list of indexes."""
    need_fair(marks)
    codes = need_sums([mark[0] for mark in marks], sums)
    return is_lot(thing, len(codes)) and is_barred(marks, added_up(codes, thing))


def answer_function(one):
    """The function that says the same as an answer."""
    if not is_sum(one):
        raise BadAnswer(one)
    names, truth = one
    found = []
    for index in range(1 << len(names)):
        truths = position_at(len(names), index)
        if (truths.count(True) & 1 == 1) != truth:
            found.append(([(name, side) for name, side in zip(names, truths)], True))
    return found
