"""Least lots of things that are enough, where lots with more things are enough, too; and greatest ones that are short.

A lot is an integer with a bit for each thing.
"""

from marksinturn.sumcodes import lot_indexes


def extreme_lots(many, is_enough):
    """The pair of all least lots of so many things that are enough, and of all greatest ones that are short.

    Each lot comes behind its parts; so one that is enough, and has no least
    one in it, is a least one itself.
    """
    least = []
    greatest = []
    for lot in range(1 << many):
        if any([not one & ~lot for one in least]) or any([not lot & ~one for one in greatest]):
            continue
        if is_enough(lot):
            least.append(lot)
        else:
            greatest.append(grown(many, is_enough, lot))
    return least, greatest


def grown(many, is_enough, lot):
    """A greatest lot that is short and has all things of one that is."""
    for index in range(many):
        if not lot >> index & 1 and not is_enough(lot | 1 << index):
            lot |= 1 << index
    return lot


def meeting_lots(lots):
    """All least lots that have a thing of each of some lots.

    One that has no thing of the next lot gets one, if none that had such a
    thing is part of it then. Of two that get one neither is part of the
    other: the lesser one would have had such a thing.
    """
    least = [0]
    for lot in lots:
        meeting = [one for one in least if one & lot]
        found = {one: True for one in meeting}
        for one in least:
            if not one & lot:
                for index in lot_indexes(lot):
                    more = one | 1 << index
                    if not any([not other & ~more for other in meeting]):
                        found[more] = True
        least = list(found)
    return least


def told_lots(lots):
    """Lots as ascending lists of indexes, ascending."""
    return sorted([lot_indexes(lot) for lot in lots])
