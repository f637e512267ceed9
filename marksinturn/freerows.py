"""Free rows, which have no places: papers of them judged, and found."""

from marksinturn.chancefree import need_no_chance
from marksinturn.freejudging import judged_free
from marksinturn.hanging import rows_kept
from marksinturn.rowsearch import value_search


def free_fault(question, thing):
    """None for a free paper, else the index of the first thing that is wrong, and why it is."""
    need_no_chance(question)
    _, fault = judged_free(question, thing)
    return fault


def found_free(question):
    """A free paper whose last row has no literals."""
    need_no_chance(question)
    search = value_search(question)
    if search.part_at([]) == 0:
        kind, last = "lost", search.settle("most", [], 0)
    else:
        kind, last = "won", search.settle("least", [], search.whole)
    rows, _ = rows_kept(search.told_rows(), [last])
    return [(kind, row[2], free_how(row[4])) for row in rows]


def free_how(how):
    """How a free row is made that is like a row with a place."""
    return ("start",) if len(how) == 1 else how
