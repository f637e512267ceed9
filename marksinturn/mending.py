"""Gates by which a circuit can be mended to do what another one does."""

from marksinturn.circuits import need_circuits, need_fit, need_no_box, outs_of, unlike_pattern
from marksinturn.leastlots import extreme_lots
from marksinturn.refusals import BadGates
from marksinturn.shapes import is_list
from marksinturn.sumcodes import lot_indexes
from marksinturn.tables import full_pattern, position_at, yes_patterns


def mended_at(circuit, other, names):
    """For each input whether with some truths in the place of what gates tell the outs are those of another circuit."""
    many = len(circuit[0])
    patterns = yes_patterns(many + len(names))
    full = full_pattern(many + len(names))
    given = {name: pattern for name, pattern in zip(names, patterns[many:])}
    outs = outs_of(circuit, patterns[:many], full, given)
    alike = full ^ unlike_pattern(outs, outs_of(other, patterns[:many], full, {}))
    # What the gates may tell at one input stands side by side.
    block = full_pattern(len(names))
    return [alike >> (at << len(names)) & block > 0 for at in range(1 << many)]


def need_gates(circuit, lot):
    """Raise BadGates for the first thing that is no name of a gate, or stood ahead."""
    if not is_list(lot):
        raise BadGates(0)
    left = {name: True for name, _, _ in circuit[1]}
    for index, thing in enumerate(lot):
        if not isinstance(thing, str) or not left.get(thing, False):
            raise BadGates(index)
        left[thing] = False


def unmended(circuit, other, lot):
    """The least input at which a lot of gates does not mend; None if it mends at all."""
    need_circuits(circuit, other)
    need_no_box(circuit)
    need_gates(circuit, lot)
    need_fit(circuit, other)
    mended = mended_at(circuit, other, list(lot))
    return None if all(mended) else position_at(len(circuit[0]), mended.index(False))


def least_mends(circuit, other):
    """All lots of gates that mend at all inputs, and not without one of their gates, the shorter ahead."""
    need_circuits(circuit, other)
    need_no_box(circuit)
    need_fit(circuit, other)
    names = [name for name, _, _ in circuit[1]]
    least, _ = extreme_lots(
        len(names), lambda lot: all(mended_at(circuit, other, [names[place] for place in lot_indexes(lot)]))
    )
    lots = sorted([(len(lot_indexes(lot)), lot_indexes(lot)) for lot in least])
    return [[names[place] for place in places] for _, places in lots]
