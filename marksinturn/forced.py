"""What best policies do where they come to a position."""

from marksinturn.choices import told_choices
from marksinturn.errors import NoneSets, NotOurs
from marksinturn.numbersof import better_of, fraction_of, whole_of
from marksinturn.positions import need_position
from marksinturn.questions import need_question
from marksinturn.tables import index_of, worth_levels


def part_through(question, levels, position):
    """The greatest parts from the start of a policy that comes to a position, by our own marks."""
    place = len(position)
    index = index_of(position)
    part = levels[place][index]
    while place > 0:
        beside = levels[place][index ^ 1]
        place -= 1
        hand = question.hands[place]
        if hand != "we":
            no, yes = (beside, part) if position[place] else (part, beside)
            part = better_of(hand, no, yes)
        index //= 2
    return part


def worth_through(question, position):
    """The greatest worth from the start of a policy of ours that comes to a position."""
    need_question(question)
    need_position(question, position)
    levels = worth_levels(question, [], {})
    return fraction_of(part_through(question, levels, position), whole_of(question))


def need_our_turn(question, position):
    """Raise what is due where the next mark is none of ours."""
    need_question(question)
    need_position(question, position)
    if len(position) == len(question.names):
        raise NoneSets(position)
    if question.hands[len(position)] != "we":
        raise NotOurs(position)


def truths_done(question, levels, position):
    """The truths that best policies which come to our turn set there."""
    best = levels[0][0]
    return [
        truth
        for truth in (False, True)
        if part_through(question, levels, list(position) + [truth]) == best
    ]


def done_there(question, position):
    """The truths that best policies which come there set; none if none comes."""
    need_our_turn(question, position)
    return truths_done(question, worth_levels(question, [], {}), position)


def two_there(question, position):
    """A pair of best policies that come there and set No and Yes; None without them."""
    need_our_turn(question, position)
    levels = worth_levels(question, [], {})
    if len(truths_done(question, levels, position)) < 2:
        return None
    no = best_through(question, levels, list(position) + [False])
    yes = best_through(question, levels, list(position) + [True])
    return (no, yes)


def best_through(question, levels, position):
    """A policy that comes to a position and does elsewhere what is best."""
    tables = []
    for level in levels[1:]:
        tables.append([yes > no for no, yes in zip(level[0::2], level[1::2])])
    for place, truth in enumerate(position):
        tables[place][index_of(position[:place])] = truth
    return told_choices(question, tables)
