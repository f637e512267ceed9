"""Policies made of what is chosen, position by position."""

from marksinturn.literals import literals_of
from marksinturn.tables import marks_by


def best_choices(question, hand, levels):
    """The policy of a hand that goes, everywhere, to the side that is worth more to it by the levels of parts."""
    sign = 1 if hand == "we" else -1
    found = {}
    for place in marks_by(question, hand):
        nos = levels[place + 1][0::2]
        yeses = levels[place + 1][1::2]
        table = [sign * yes > sign * no for no, yes in zip(nos, yeses)]
        found[question.names[place]] = pairs_of_table(question.names[:place], table)
    return found


def pairs_of_table(names, table):
    """The pairs that tell Yes just where a table of all positions of these marks does."""
    return pairs_within(names, table, 0, 0)


def pairs_within(names, table, place, code):
    """Those pairs, within the positions that have the literals of a code for, all marks ahead of a place."""
    if not any(table):
        return []
    if all(table):
        return [(literals_of(names, code), True)]
    half = len(table) // 2
    pairs = pairs_within(names, table[:half], place + 1, code | 1 << (2 * place))
    pairs.extend(pairs_within(names, table[half:], place + 1, code | 2 << (2 * place)))
    return pairs


def told_choices(question, tables):
    """Our policy by tables of what we choose, where it is followed, by others' marks alone."""
    told = {}
    level = [(0, 0)]
    for place, hand in enumerate(question.hands):
        if hand == "we":
            chosen = [(index, code, tables[place][index]) for index, code in level]
            told[question.names[place]] = [
                (literals_of(question.names, code), True) for _, code, truth in chosen if truth
            ]
            level = [(2 * index + int(truth), code) for index, code, truth in chosen]
        else:
            level = [
                (2 * index + side, code | (1 + side) << (2 * place))
                for index, code in level
                for side in (0, 1)
            ]
    return told
