"""Boxes filled in so that a circuit does what another one does, or shown not to be filled."""

from marksinturn.boxbars import Bars
from marksinturn.circuits import (
    are_input_truths,
    boxes_of,
    filled_boxes,
    first_index,
    is_filling_of,
    need_circuits,
    need_fit,
    outs_of,
    unlike_pattern,
)
from marksinturn.literals import truth_bit
from marksinturn.refusals import Boxes
from marksinturn.shapes import is_below, is_list, is_tuple_of
from marksinturn.tables import full_pattern, index_of, position_at, yes_patterns


def need_two(circuit, other):
    """What bars the boxes of a circuit; what is due of two circuits is raised."""
    need_circuits(circuit, other)
    need_fit(circuit, other)
    return Bars(circuit, other)


def is_filling(circuit, other, thing):
    """Whether an object is a filling by which the outs are those of another circuit at all inputs."""
    need_circuits(circuit, other)
    need_fit(circuit, other)
    if not is_filling_of(circuit, thing):
        return False
    patterns, full = yes_patterns(len(circuit[0])), full_pattern(len(circuit[0]))
    outs = outs_of(circuit, patterns, full, filled_boxes(circuit, patterns, full, thing))
    return not unlike_pattern(outs, outs_of(other, patterns, full, {}))


def filled(circuit, other):
    """A filling by which the outs are those of another circuit; None if there is none."""
    bars = need_two(circuit, other)
    solving = bars.solving(bars.all_bars())
    if solving.last is not None:
        return None
    found = {}
    for start, (name, parts) in zip(bars.starts, boxes_of(circuit)):
        found[name] = [solving.held & truth_bit(start + row, True) > 0 for row in range(1 << len(parts))]
    return found


def refused(circuit, other):
    """Plain rows of which the last one is empty; None if there are none."""
    bars = need_two(circuit, other)
    given = bars.all_bars()
    solving = bars.solving(given)
    if solving.last is None:
        return None
    rows = []
    for _, how in solving.made():
        if how[0] == "given":
            at, told = given[how[1]]
            rows.append(("bar", position_at(bars.many, at), list(told)))
        else:
            rows.append(("join", how[1], how[2]))
    return rows


def is_refusal(circuit, other, thing):
    """Whether an object is a list of plain rows of which the last one is empty."""
    bars = need_two(circuit, other)
    if not is_list(thing) or not thing:
        return False
    codes = []
    for row in thing:
        code = plain_code(circuit, bars, codes, row)
        if code is None:
            return False
        codes.append(code)
    return codes[-1] == 0


def plain_code(circuit, bars, codes, row):
    """The code of the clause of a plain row behind others with these codes; None for no plain row."""
    if not is_tuple_of(row, 3) or not isinstance(row[0], str):
        return None
    word, one, other = row
    if word == "bar":
        if not are_input_truths(circuit, one) or not is_tuple_of(other, len(bars.names)):
            return None
        if not all([isinstance(truth, bool) for truth in other]) or not bars.is_bar(index_of(one), other):
            return None
        return bars.clause(index_of(one), other)
    if word != "join" or not is_below(one, len(codes)) or not is_below(other, len(codes)):
        return None
    return joined_without(codes[one], codes[other], bars.copies)


def joined_without(one, other, copies):
    """Both codes without the one copy that they have unlike; None if there is none such, or more."""
    # A bit for each copy: the lower one of its two.
    lower = ((1 << (2 * copies)) - 1) // 3
    unlike = (one & other >> 1 | one >> 1 & other) & lower
    if unlike == 0 or unlike & (unlike - 1):
        return None
    return (one | other) & ~(3 * unlike)


def one_box(circuit, other):
    """None if the one box can be filled, else an input, or a pair of inputs, that shows that it cannot."""
    need_circuits(circuit, other)
    if len(boxes_of(circuit)) != 1:
        raise Boxes(circuit)
    bars = need_two(circuit, other)
    no, yes = bars.unlike
    if no & yes:
        return ("input", position_at(bars.many, first_index(no & yes)))
    # By the row that the box sees, the first input that wants it No, and the first one that wants it Yes.
    firsts = {}
    pairs = []
    for at in range(1 << bars.many):
        for wants, pattern in ((True, no), (False, yes)):
            if pattern >> at & 1:
                row = bars.seen_at(0, at)
                if (row, not wants) in firsts:
                    pairs.append((firsts[row, not wants], at))
                firsts.setdefault((row, wants), at)
    if not pairs:
        return None
    at, later = min(pairs)
    return ("two", position_at(bars.many, at), position_at(bars.many, later))
