"""Papers whose last row tells of the beginning that it is worth a number, or less."""

from marksinturn.hanging import rows_kept
from marksinturn.judging import judged
from marksinturn.rowsearch import value_search


def ending_paper(question, number):
    """A paper whose last row has no literals, and tells a number at least, or a lesser one at most."""
    p, q = number
    search = value_search(question)
    # The least number of parts that are as much as the number.
    aim = -(-p * search.whole // q)
    if search.part_at([]) < aim:
        last = search.settle("most", [], aim - 1)
    else:
        last = search.settle("least", [], aim)
    rows, _ = rows_kept(search.told_rows(), [last])
    return rows


def does_end(question, kind, number, thing):
    """Whether an object is a paper whose last row has no literals, and tells so: at least, or that it is less."""
    right, fault = judged(question, thing)
    if fault is not None or not right.rows:
        return False
    last = right.rows[-1]
    if last[0] != kind or last[2]:
        return False
    p, q = number
    is_enough = right.parts[-1] * q >= p * right.whole
    return is_enough == (kind == "least")
