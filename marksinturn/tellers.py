"""Which rows tell of which positions, of many at once: down all of them together."""

from marksinturn.literals import truth_bit


def rows_telling(rows, positions):
    """The dict from positions, as tuples, to the rows that tell of them, in order.

    Rows are triples of a place, a code, and what is told of them.
    """
    found = {}
    spread(rows, 0, list({tuple(position): True for position in positions}), found)
    return found


def spread(rows, length, positions, found):
    """Put down what tells of positions that are alike in so many first truths, of rows that these do not bar."""
    for position in positions:
        if len(position) == length:
            found[position] = [row for row in rows if row[0] >= length and not row[1] >> (2 * length)]
    for truth in (False, True):
        behind = [position for position in positions if len(position) > length and position[length] == truth]
        if behind:
            bar = truth_bit(length, not truth)
            spread([row for row in rows if row[0] > length and not row[1] & bar], length + 1, behind, found)
