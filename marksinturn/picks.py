"""Picks of a question's things: wishes lent, guards kept, marks of theirs or of chance that we set."""

from marksinturn.leastlots import extreme_lots, meeting_lots, told_lots
from marksinturn.numbersof import is_fraction, whole_of
from marksinturn.questions import Question, need_question
from marksinturn.refusals import BadFamily, BadGoal, BadMany, BadOrder, BadPick, BadPicks
from marksinturn.shapes import is_below, is_count, is_list
from marksinturn.sumcodes import is_lot, lot_indexes
from marksinturn.tables import marks_by, worth_levels

FAMILIES = ("wishes", "guards", "theirs", "chance")


def need_family(question, family):
    """Raise BadQuestion for no question, BadFamily for none of the four words."""
    need_question(question)
    if not isinstance(family, str) or family not in FAMILIES:
        raise BadFamily(family)


def need_goal(question, family, goal):
    """Raise what is due of a question, a family, and a number that is to be reached."""
    need_family(question, family)
    if not is_fraction(goal):
        raise BadGoal(goal)


def things_of(question, family):
    """A family's things: indexes of clauses, or places of marks."""
    if family == "wishes":
        return list(range(len(question.wish_lists)))
    if family == "guards":
        return list(range(len(question.guard_lists)))
    if family == "theirs":
        return marks_by(question, "they")
    return [place for place, hand in enumerate(question.hands) if not isinstance(hand, str)]


def picked_question(question, family, pick):
    """The question without the wishes that are picked, with those guards alone, or with those marks set by us."""
    need_family(question, family)
    if not is_lot(pick, len(things_of(question, family))):
        raise BadPick(pick)
    return picked_by(question, family, pick)


def picked_by(question, family, pick):
    """The same, of what is right."""
    marks = question.marks()
    wishes = question.wish_lists
    guards = question.guard_lists
    if family == "wishes":
        wishes = [wish for index, wish in enumerate(wishes) if index not in pick]
    elif family == "guards":
        guards = [guards[index] for index in pick]
    else:
        things = things_of(question, family)
        for index in pick:
            place = things[index]
            marks[place] = (question.names[place], "we")
    return Question(marks, wishes, guards)


def is_enough(question, family, goal, lot):
    """Whether the value is the goal at least where a lot of things is picked."""
    picked = picked_by(question, family, lot_indexes(lot))
    p, q = goal
    return worth_levels(picked, [], {})[0][0] * q >= p * whole_of(picked)


def extreme_picks(question, family, goal):
    """The pair of all least lots of things that are enough, and of all greatest ones that are short."""
    many = len(things_of(question, family))
    return extreme_lots(many, lambda lot: is_enough(question, family, goal, lot))


def lacking(many, lots):
    """For each lot the one of all other things, of so many."""
    everything = (1 << many) - 1
    return [everything ^ lot for lot in lots]


def enough_picks(question, family, goal):
    """All least picks that are enough, ascending."""
    need_goal(question, family, goal)
    least, _ = extreme_picks(question, family, goal)
    return told_lots(least)


def short_picks(question, family, goal):
    """All greatest picks that are short, ascending."""
    need_goal(question, family, goal)
    _, greatest = extreme_picks(question, family, goal)
    return told_lots(greatest)


def barring_picks(question, family, goal):
    """All least picks such that all that have none of their things are short, ascending."""
    need_goal(question, family, goal)
    _, greatest = extreme_picks(question, family, goal)
    return told_lots(lacking(len(things_of(question, family)), greatest))


def meeting_picks(picks, many):
    """All least picks of so many things that have a thing of each of some picks, ascending."""
    if not is_count(many):
        raise BadMany(many)
    if not is_list(picks):
        raise BadPicks(0)
    for index, thing in enumerate(picks):
        if not is_lot(thing, many):
            raise BadPicks(index)
    # Things in no pick are never needed, so that many may be great.
    named = sorted({one for pick in picks for one in pick})
    places = {one: place for place, one in enumerate(named)}
    lots = [sum([1 << places[one] for one in pick]) for pick in picks]
    return [[named[place] for place in lot] for lot in told_lots(meeting_lots(lots))]


def is_order(thing, many):
    """Whether an object is a list of all indexes of so many things, each once."""
    if not is_list(thing) or not all([is_below(index, many) for index in thing]):
        return False
    return sorted(thing) == list(range(many))


def thinned_pick(question, family, goal, order):
    """What is left of all things without each, in an order, that is not needed; None if all together are short."""
    need_goal(question, family, goal)
    many = len(things_of(question, family))
    if not is_order(order, many):
        raise BadOrder(order)
    lot = (1 << many) - 1
    if not is_enough(question, family, goal, lot):
        return None
    for index in order:
        if is_enough(question, family, goal, lot ^ 1 << index):
            lot ^= 1 << index
    return lot_indexes(lot)
