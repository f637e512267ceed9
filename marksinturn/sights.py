"""What has to be seen: least lists of sights by which a team wins."""

from marksinturn.leastlots import extreme_lots, told_lots
from marksinturn.refusals import BadSights
from marksinturn.shapes import is_below, is_list, is_tuple_of
from marksinturn.sumcodes import lot_indexes
from marksinturn.teamcopies import TeamCopies
from marksinturn.teams import Team, all_settings, need_clauses, need_team


def is_sight(team, thing):
    """Whether an object is a pair of indexes of one of ours and of one of theirs."""
    if not is_tuple_of(thing, 2):
        return False
    return is_below(thing[0], len(team.our_names)) and is_below(thing[1], len(team.their_names))


def need_sights(team, sights):
    """Raise BadSights for the first thing that is no sight above the one ahead."""
    if not is_list(sights):
        raise BadSights(0)
    for index, thing in enumerate(sights):
        if not is_sight(team, thing) or index > 0 and tuple(thing) <= tuple(sights[index - 1]):
            raise BadSights(index)


def team_seeing(team, sights):
    """The team with just these sights."""
    need_team(team)
    need_sights(team, sights)
    return seeing(team, sights)


def seeing(team, sights):
    """The same, of what is right."""
    ours = []
    for index, name in enumerate(team.our_names):
        ours.append((name, [team.their_names[j] for i, j in sights if i == index]))
    return Team(team.their_names, ours)


def least_sights(team, clauses):
    """All least lists of sights by which a team wins clauses, ascending."""
    need_team(team)
    kept = need_clauses(team, clauses)
    every = [(i, j) for i in range(len(team.our_names)) for j in range(len(team.their_names))]
    settings = all_settings(team)

    def wins(lot):
        other = seeing(team, [every[at] for at in lot_indexes(lot)])
        return not TeamCopies(other, kept).are_beaten(settings)

    least, _ = extreme_lots(len(every), wins)
    return [[every[at] for at in indexes] for indexes in told_lots(least)]
