"""Literals, and lots of them as codes.

A code is an integer that says of each mark whether No (bit 2 * place) or
Yes (the bit above it) is meant; so one operation compares whole lots.
"""

from marksinturn.shapes import is_list, is_name, is_tuple_of


def literal_list(places, thing):
    """The literals of a list of such of unlike marks that have places, in its order; None for anything else."""
    if not is_list(thing):
        return None
    found = []
    seen = set()
    for one in thing:
        if not is_tuple_of(one, 2):
            return None
        mark, truth = one
        if not isinstance(mark, str) or mark not in places or not isinstance(truth, bool):
            return None
        if mark in seen:
            return None
        seen.add(mark)
        found.append((mark, truth))
    return found


def name_literals(thing):
    """The literals of a list of such of unlike marks of any names, in its order; None for anything else."""
    if not is_list(thing):
        return None
    names = {one[0]: True for one in thing if is_tuple_of(one, 2) and is_name(one[0])}
    return literal_list(names, thing)


def in_marks_order(places, literals):
    """The literals in the order of their marks."""
    return sorted(literals, key=lambda literal: places[literal[0]])


def are_in_order(places, literals):
    """Whether the literals stand in the order of their marks."""
    stand = [places[mark] for mark, _ in literals]
    return stand == sorted(stand)


def code_of(places, literals):
    """The code of literals."""
    code = 0
    for mark, truth in literals:
        code |= truth_bit(places[mark], truth)
    return code


def turned_code(places, literals):
    """The code of the literals with their other truths."""
    code = 0
    for mark, truth in literals:
        code |= truth_bit(places[mark], not truth)
    return code


def truth_bit(place, truth):
    """The code of the one mark at a place, set to a truth."""
    return 1 << (2 * place + int(truth))


def position_code(position):
    """The code of the literals that are for at a position."""
    code = 0
    for place, truth in enumerate(position):
        code |= truth_bit(place, truth)
    return code


def literals_of(names, code):
    """The literals of a code, in the order of the marks."""
    found = []
    for place, name in enumerate(names):
        here = code >> (2 * place)
        if here & 1:
            found.append((name, False))
        if here & 2:
            found.append((name, True))
    return found


def clauses_of(names, codes):
    """The clauses of codes."""
    return [literals_of(names, code) for code in codes]
