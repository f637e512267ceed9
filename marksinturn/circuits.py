"""Circuits: gates that hang on inputs and on gates ahead, some of them boxes, whose functions are not known.

What a wire tells at all inputs at once is a pattern, as those of positions:
the inputs' truths are a position's, the first input's ahead.
"""

from marksinturn.refusals import BadCircuit, BadFilling, BadInputs, HasBox, Unfit
from marksinturn.shapes import is_list, is_name, is_tuple_of
from marksinturn.tables import full_pattern, position_at, yes_patterns

# How many parts each word takes; a box takes as many as one likes.
PARTS = {"not": 1, "and": 2, "or": 2, "xor": 2}


def is_circuit(thing):
    """Whether an object is a circuit."""
    if not is_tuple_of(thing, 3) or not all([is_list(one) for one in thing]):
        return False
    inputs, gates, outs = thing
    if not inputs or not outs or not all([is_name(name) for name in inputs]) or len(set(inputs)) != len(inputs):
        return False
    # For each name that stood whether it hangs on a box.
    boxed = {one: False for one in inputs}
    for gate in gates:
        if not is_tuple_of(gate, 3) or not is_name(gate[0]) or gate[0] in boxed:
            return False
        name, word, parts = gate
        if not are_parts(boxed, word, parts):
            return False
        boxed[name] = word == "box" or any([boxed[part] for part in parts])
    return are_names_of(boxed, outs)


def are_names_of(names, thing):
    """Whether an object is a list of some of the names."""
    return is_list(thing) and all([isinstance(name, str) and name in names for name in thing])


def are_parts(boxed, word, parts):
    """Whether a gate of a word can have these parts, of names of which it is told whether they hang on a box."""
    if not isinstance(word, str) or not are_names_of(boxed, parts):
        return False
    if word == "box":
        return len(set(parts)) == len(parts) and not any([boxed[part] for part in parts])
    return word in PARTS and len(parts) == PARTS[word]


def need_circuit(circuit):
    """Raise BadCircuit for what is no circuit."""
    if not is_circuit(circuit):
        raise BadCircuit(circuit)


def need_circuits(circuit, other):
    """Raise BadCircuit for the first of two that is no circuit."""
    need_circuit(circuit)
    need_circuit(other)


def need_fit(circuit, other):
    """Raise Unfit for another circuit with boxes, or with another number of inputs or outs."""
    if boxes_of(other) or len(other[0]) != len(circuit[0]) or len(other[2]) != len(circuit[2]):
        raise Unfit(other)


def need_no_box(circuit):
    """Raise HasBox for a circuit with a box."""
    if boxes_of(circuit):
        raise HasBox(circuit)


def boxes_of(circuit):
    """The pairs of a box and its parts, in the gates' order."""
    return [(name, parts) for name, word, parts in circuit[1] if word == "box"]


def is_filling_of(circuit, thing):
    """Whether an object is a dict from just the boxes to tables."""
    boxes = boxes_of(circuit)
    if not isinstance(thing, dict) or len(thing) != len(boxes):
        return False
    for name, parts in boxes:
        if name not in thing or not is_tuple_of(thing[name], 1 << len(parts)):
            return False
        if not all([isinstance(truth, bool) for truth in thing[name]]):
            return False
    return True


def wires(circuit, patterns, full, given):
    """The dict from all names to patterns, where inputs have these, and gates that are given what is given of them."""
    found = {name: pattern for name, pattern in zip(circuit[0], patterns)}
    for name, word, parts in circuit[1]:
        if name in given:
            found[name] = given[name]
        else:
            found[name] = gate_pattern(word, full, [found[part] for part in parts])
    return found


def gate_pattern(word, full, parts):
    """What a gate that is no box tells of patterns of its parts."""
    if word == "not":
        return full ^ parts[0]
    one, other = parts
    if word == "and":
        return one & other
    if word == "or":
        return one | other
    return one ^ other


def outs_of(circuit, patterns, full, given):
    """The patterns of the outs."""
    found = wires(circuit, patterns, full, given)
    return [found[name] for name in circuit[2]]


def unlike_pattern(one, other):
    """The pattern of where some out of two lists is unlike."""
    found = 0
    for pattern, another in zip(one, other):
        found |= pattern ^ another
    return found


def table_pattern(patterns, full, table):
    """Where a box with a table tells Yes, whose parts have these patterns."""
    found = 0
    for index, truth in enumerate(table):
        if truth:
            fits = full
            for pattern, side in zip(patterns, position_at(len(patterns), index)):
                fits &= pattern if side else full ^ pattern
            found |= fits
    return found


def filled_boxes(circuit, patterns, full, filling):
    """The patterns of the boxes by a filling."""
    seen = wires(circuit, patterns, full, {name: 0 for name, _ in boxes_of(circuit)})
    return {
        name: table_pattern([seen[part] for part in parts], full, filling[name]) for name, parts in boxes_of(circuit)
    }


def first_index(pattern):
    """The least index in a pattern that has one."""
    return (pattern & -pattern).bit_length() - 1


def are_input_truths(circuit, thing):
    """Whether an object is a list of a truth for each input."""
    return is_tuple_of(thing, len(circuit[0])) and all([isinstance(truth, bool) for truth in thing])


def outs_at(circuit, filling, truths):
    """The truths of the outs, where the boxes are filled so, at inputs' truths."""
    need_circuit(circuit)
    if not is_filling_of(circuit, filling):
        raise BadFilling(filling)
    if not are_input_truths(circuit, truths):
        raise BadInputs(truths)
    patterns = [int(truth) for truth in truths]
    outs = outs_of(circuit, patterns, 1, filled_boxes(circuit, patterns, 1, filling))
    return [pattern == 1 for pattern in outs]


def parted_at(circuit, other):
    """The least truths of inputs at which the outs of two circuits are unlike; None if there are none."""
    need_circuits(circuit, other)
    need_no_box(circuit)
    need_fit(circuit, other)
    many = len(circuit[0])
    patterns, full = yes_patterns(many), full_pattern(many)
    unlike = unlike_pattern(outs_of(circuit, patterns, full, {}), outs_of(other, patterns, full, {}))
    return position_at(many, first_index(unlike)) if unlike else None
