"""Sums of marks in turn: clauses that say the same, neat ones, and the value."""

from marksinturn.refusals import BadSum
from marksinturn.sumcodes import NEVER, is_sum, last_place, lot_indexes, need_fair, need_sums, neat_rows, told_sum
from marksinturn.tables import position_at


def sum_clauses(one):
    """The clauses that a play keeps all just if a sum holds."""
    if not is_sum(one):
        raise BadSum(one)
    names, truth = one
    found = []
    for index in range(1 << len(names)):
        truths = position_at(len(names), index)
        # The clause bars just the truths that are all otherwise: there the sum must not hold.
        is_odd = truths.count(False) & 1 == 1
        if is_odd != truth:
            found.append([(name, side) for name, side in zip(names, truths)])
    return found


def neat_of(marks, sums):
    """The pairs of the code of a neat sum of marks, and its lot; what is due is raised."""
    need_fair(marks)
    return neat_rows(need_sums([mark[0] for mark in marks], sums))


def neat_sums(marks, sums):
    """The neat sums that all plays keep which keep the sums, and no others."""
    rows = neat_of(marks, sums)
    return [told_sum([mark[0] for mark in marks], code) for code, _ in rows]


def neat_lots(marks, sums):
    """For each neat sum indexes of sums that are this one, added up."""
    return [lot_indexes(lot) for _, lot in neat_of(marks, sums)]


def sums_value(marks, sums):
    """The chance that we keep all sums, if both do their best."""
    halves = 0
    for code, _ in neat_of(marks, sums):
        if code == NEVER or marks[last_place(code)][1] == "they":
            return (0, 1)
        if marks[last_place(code)][1] != "we":
            halves += 1
    return (1, 1 << halves)
