"""How many policies of ours are worth how much, at all positions."""

from marksinturn.numbersof import better_of, mean_of
from marksinturn.tables import worth_levels


def count_levels(question, position):
    """For all positions from one on, by length, dicts from parts to how many policies have just these."""
    plays = worth_levels(question, position, {})[-1]
    level = [{part: 1} for part in plays]
    levels = [level]
    for place in range(len(question.names) - 1, len(position) - 1, -1):
        hand = question.hands[place]
        level = [counts_ahead(hand, no, yes) for no, yes in zip(level[0::2], level[1::2])]
        levels.append(level)
    return levels[::-1]


def counts_ahead(hand, no, yes):
    """The counts right ahead of a hand's mark, by those with it No and Yes."""
    if hand == "we":
        return added_counts(no, yes)
    if hand == "they":
        return lesser_counts(no, yes)
    return mean_counts(hand, no, yes)


def added_counts(no, yes):
    """The counts of both together."""
    found = {part: many for part, many in no.items()}
    for part, many in yes.items():
        found[part] = found.get(part, 0) + many
    return found


def lesser_counts(no, yes):
    """The counts of the lesser one of each pair: from the greatest on, all pairs less those that are greater."""
    found = {}
    nos = 0
    yeses = 0
    for part in sorted(list(added_counts(no, yes)), reverse=True):
        greater = nos * yeses
        nos += no.get(part, 0)
        yeses += yes.get(part, 0)
        if nos * yeses > greater:
            found[part] = nos * yeses - greater
    return found


def mean_counts(odds, no, yes):
    """The counts of the mean of each pair."""
    found = {}
    for one, many in no.items():
        for other, more in yes.items():
            part = mean_of(odds, one, other)
            found[part] = found.get(part, 0) + many * more
    return found


def outer_gains(hand, no, yes, gains):
    """How many gain with each one of No, all of Yes together."""
    if hand == "they":
        return lesser_gains(no, yes, gains)
    return {
        one: sum([more * gains[mean_of(hand, one, other)] for other, more in yes.items()])
        for one in no
    }


def lesser_gains(no, yes, gains):
    """How many gain with each one of No: what is less of Yes as itself, all other of it as that one."""
    found = {}
    below = 0
    left = sum(list(yes.values()))
    for part in sorted(list(added_counts(no, yes))):
        if part in no:
            found[part] = below + left * gains.get(part, 0)
        below += yes.get(part, 0) * gains.get(part, 0)
        left -= yes.get(part, 0)
    return found


def inner_gains(hand, one, yes, gains):
    """How many gain with each one of Yes, beside one of No."""
    return {other: gains[better_of(hand, one, other)] for other in yes}
