"""Loss papers of one loss, and how to play by loss rows."""

from marksinturn.bestrows import best_index, moved_by
from marksinturn.errors import BadPosition
from marksinturn.hanging import needed_of
from marksinturn.judging import dropping_hand
from marksinturn.literals import literals_of
from marksinturn.lossjudging import need_loss_kind, need_losses
from marksinturn.lossstarts import LossStarts
from marksinturn.lossvalues import loss_levels, need_priced_wishes, told_loss
from marksinturn.positions import need_position
from marksinturn.rowsearch import RowSearch


def loss_paper(question, prices):
    """A loss paper whose last two rows, a loses row and a keeps row, have no literals, and tell one loss."""
    need_priced_wishes(question, prices)
    search = RowSearch(question, loss_levels(question, prices, [], {}), LossStarts(question, prices))
    part = search.part_at([])
    ends = [search.settle(kind, [], part) for kind in ("most", "least")]
    named = [led_indexes(row.how) for row in search.rows]
    order = []
    for end in ends:
        needed = needed_of(named, [end])
        order.extend([index for index, is_needed in enumerate(needed) if is_needed and index != end])
    order.extend(ends)
    places = {index: place for place, index in enumerate(order)}
    return [told_loss_row(question, search.rows[index], places) for index in order]


def led_indexes(how):
    """The indexes of the rows that a row is made of."""
    return how[1:] if how[0] in ("drop", "join") else ()


def told_loss_row(question, row, places):
    """A found row as a loss row, with the new indexes of the rows that it is made of."""
    literals = literals_of(question.names, row.code)
    kind = "keeps"
    if row.kind == "most":
        kind = "loses"
        literals = [(mark, not truth) for mark, truth in literals]
    how = row.how
    named = [places[index] for index in led_indexes(how)]
    return (kind, row.place, literals, told_loss(question, row.part), (how[0], *named) if named else how)


def loss_truth(question, prices, losses, kind, position):
    """The truth that the best row of a kind asks for at a position; False if it asks for none."""
    need_priced_wishes(question, prices)
    right = need_losses(question, prices, losses)
    goes_as = need_loss_kind(kind)
    need_position(question, position)
    place = len(position)
    if place == right.length or question.hands[place] != dropping_hand(goes_as):
        raise BadPosition(position)
    return moved_by(right, best_index(right, goes_as, position), place)
