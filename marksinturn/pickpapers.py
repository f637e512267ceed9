"""Papers that show, pick by pick, which ones are enough, and that there are no others."""

from marksinturn.endrows import does_end, ending_paper
from marksinturn.leastlots import meeting_lots, told_lots
from marksinturn.picks import extreme_picks, lacking, need_goal, picked_by, things_of
from marksinturn.shapes import is_list, is_tuple_of
from marksinturn.sumcodes import is_lot


def picks_paper(question, family, goal):
    """The pair of the least picks that are enough and the greatest that are short, each with a paper."""
    need_goal(question, family, goal)
    least, greatest = extreme_picks(question, family, goal)
    return (with_papers(question, family, goal, least), with_papers(question, family, goal, greatest))


def with_papers(question, family, goal, lots):
    """The pairs of picks, ascending, and papers that show what they are."""
    return [(pick, ending_paper(picked_by(question, family, pick), goal)) for pick in told_lots(lots)]


def is_picks_paper(question, family, goal, thing):
    """Whether an object is such a pair: all picks right by their papers, and each list told by the other one."""
    need_goal(question, family, goal)
    many = len(things_of(question, family))
    if not is_tuple_of(thing, 2) or not all([are_pick_pairs(pairs, many) for pairs in thing]):
        return False
    for kind, pairs in (("least", thing[0]), ("most", thing[1])):
        for pick, paper in pairs:
            if not does_end(picked_by(question, family, pick), kind, goal, paper):
                return False
    enough = [lot_of_pick(pick) for pick, _ in thing[0]]
    barring = lacking(many, [lot_of_pick(pick) for pick, _ in thing[1]])
    return sorted(barring) == sorted(meeting_lots(enough)) and sorted(enough) == sorted(meeting_lots(barring))


def are_pick_pairs(thing, many):
    """Whether an object is a list of pairs of a pick of so many things and something, the picks ascending."""
    if not is_list(thing):
        return False
    if not all([is_tuple_of(pair, 2) and is_lot(pair[0], many) for pair in thing]):
        return False
    picks = [list(pick) for pick, _ in thing]
    return picks == sorted(picks)


def lot_of_pick(pick):
    """The lot of the things of a pick."""
    return sum([1 << index for index in pick])
