"""Bounds of positions, and papers whose bounds meet."""

from marksinturn.bestrows import told_number
from marksinturn.errors import BadDepth, BadNumber
from marksinturn.hanging import rows_kept
from marksinturn.judging import need_paper
from marksinturn.numbersof import fraction_of, is_fraction
from marksinturn.positions import need_position
from marksinturn.questions import need_question
from marksinturn.rowsearch import value_search
from marksinturn.shapes import is_below
from marksinturn.tables import position_at


def bounds_at(question, paper, position):
    """The pair of the numbers that least rows and most rows tell of a position."""
    need_question(question)
    right = need_paper(question, paper)
    need_position(question, position)
    return (told_number(right, "least", position), told_number(right, "most", position))


def paper_of(search, kept):
    """The paper of just the rows on which some hang."""
    rows, _ = rows_kept(search.told_rows(), kept)
    return rows


def solved(question, position):
    """The pair of a position's value and a paper whose bounds meet at it."""
    need_question(question)
    need_position(question, position)
    search = value_search(question)
    kept = search.settle_both(position)
    return (fraction_of(search.part_at(position), search.whole), paper_of(search, kept))


def reached(question, position, number):
    """The pair of reached and a paper of least rows that say so, or of missed and one of most rows."""
    need_question(question)
    need_position(question, position)
    if not is_fraction(number):
        raise BadNumber(number)
    p, q = number
    search = value_search(question)
    # The least number of parts that are as much as the number.
    aim = -(-p * search.whole // q)
    if search.part_at(position) < aim:
        return ("missed", paper_of(search, [search.settle("most", position, aim - 1)]))
    if aim == 0:
        return ("reached", [])
    return ("reached", paper_of(search, [search.settle("least", position, aim)]))


def border(question, depth):
    """The pair of the values of all positions of a length, and one paper whose bounds meet at all of them."""
    need_question(question)
    if not is_below(depth, len(question.names) + 1):
        raise BadDepth(depth)
    search = value_search(question)
    kept = []
    values = {}
    for index, part in enumerate(search.levels[depth]):
        position = position_at(depth, index)
        kept.extend(search.settle_both(position))
        values[tuple(position)] = fraction_of(part, search.whole)
    return (values, paper_of(search, kept))
