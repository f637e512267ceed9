"""Circuits by the document's words: gate by gate, at each input by itself."""

from itertools import product

WORDS = {"not": lambda a: not a, "and": lambda a, b: a and b, "or": lambda a, b: a or b, "xor": lambda a, b: a != b}


def all_truths(many):
    return [list(one) for one in product([False, True], repeat=many)]


def boxes_of(circuit):
    return [(name, list(parts)) for name, word, parts in circuit[1] if word == "box"]


def run(circuit, truths, told):
    """The truths of all wires, where gates that are told have what is told of them."""
    found = dict(zip(circuit[0], truths))
    for name, word, parts in circuit[1]:
        if name in told:
            found[name] = told[name]
        elif word != "box":
            found[name] = WORDS[word](*[found[part] for part in parts])
        else:
            found[name] = False
    return found


def outs(circuit, truths, told=None):
    found = run(circuit, truths, told or {})
    return [found[name] for name in circuit[2]]


def seen_at(circuit, truths):
    """What each box sees at inputs."""
    found = run(circuit, truths, {})
    return {name: tuple(found[part] for part in parts) for name, parts in boxes_of(circuit)}


def told_by(circuit, filling, truths):
    return {name: filling[name][all_truths(len(seen)).index(list(seen))] for name, seen in seen_at(circuit, truths).items()}


def is_unlike(circuit, other, truths, told):
    """Whether the outs are unlike, if the boxes, in the gates' order, tell this."""
    return outs(circuit, truths, dict(zip([name for name, _ in boxes_of(circuit)], told))) != outs(other, truths)


def all_fillings(circuit):
    boxes = boxes_of(circuit)
    for tables in product(*[all_truths(2 ** len(parts)) for _, parts in boxes]):
        yield {name: table for (name, _), table in zip(boxes, tables)}


def fills(circuit, other, filling):
    return all(outs(circuit, truths, told_by(circuit, filling, truths)) == outs(other, truths) for truths in all_truths(len(circuit[0])))


def made_circuit(source, inputs=3, gates=5, boxes=2, see=2, outs=2, from_inputs=False):
    names = source.sample(["a", "b", "c", "d", "e", "f"], inputs)
    boxed = {name: False for name in names}
    made = []
    for at in range(source.randint(1, gates)):
        name = f"g{at}"
        clean = list(names) if from_inputs else [one for one in boxed if not boxed[one]]
        if boxes and source.random() < 0.35:
            parts = source.sample(clean, min(len(clean), source.randint(0, see)))
            made.append((name, "box", parts))
            boxed[name] = True
            boxes -= 1
            continue
        word = source.choice(["not", "and", "or", "xor"])
        parts = [source.choice(list(boxed)) for _ in range(1 if word == "not" else 2)]
        made.append((name, word, parts))
        boxed[name] = any(boxed[one] for one in parts)
    return (names, made, [source.choice(list(boxed)[-4:]) for _ in range(source.randint(1, outs))])


def with_names(source, circuit):
    """The same circuit with other names for its inputs and gates."""
    old = list(circuit[0]) + [gate[0] for gate in circuit[1]]
    new = dict(zip(old, source.sample([f"z{at}" for at in range(30)], len(old))))
    gates = [(new[name], word, [new[part] for part in parts]) for name, word, parts in circuit[1]]
    return ([new[name] for name in circuit[0]], gates, [new[name] for name in circuit[2]])


def without_boxes(source, circuit):
    """A circuit without boxes that does what this one does by some filling, or nearly so."""
    gates = []
    for name, word, parts in circuit[1]:
        if word == "box":
            one = (list(parts) or list(circuit[0]))[0]
            if len(parts) > 1:
                gates.append((name, source.choice(["and", "or", "xor"]), list(parts)[:2]))
            else:
                gates.append((name, source.choice(["not", "or"]), [one]))
                if gates[-1][1] == "or":
                    gates[-1] = (name, "or", [one, one])
        elif source.random() < 0.05 and word != "not":
            gates.append((name, source.choice(["and", "or", "xor"]), list(parts)))
        else:
            gates.append((name, word, list(parts)))
    return with_names(source, (circuit[0], gates, circuit[2]))


def two_circuits(source, many, **how):
    for _ in range(many):
        circuit = made_circuit(source, **how)
        other = without_boxes(source, circuit)
        if source.random() < 0.25:
            other = made_circuit(source, **{**how, "boxes": 0, "inputs": len(circuit[0])})
            other = (other[0], other[1], [source.choice(other[2]) for _ in circuit[2]])
        yield circuit, other
