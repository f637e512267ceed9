"""Teams: each of ours sees some marks of theirs, and sets one of its own."""

from marksinturn.literals import literal_list, name_literals
from marksinturn.refusals import (
    BadClauses,
    BadOurs,
    BadSetting,
    BadTeam,
    BadTeamPolicy,
    BadTheirNames,
)
from marksinturn.shapes import is_list, is_name, is_tuple_of
from marksinturn.tables import position_at


def first_wrong_their(theirs):
    """The index of the first thing that is no new name; None without one."""
    if not is_list(theirs):
        return 0
    seen = set()
    for index, name in enumerate(theirs):
        if not is_name(name) or name in seen:
            return index
        seen.add(name)
    return None


def first_wrong_our(theirs, ours):
    """The index of the first thing that is no pair of a new name and unlike names of theirs; None without one."""
    if not is_list(ours):
        return 0
    taken = {name: True for name in theirs}
    for index, thing in enumerate(ours):
        if not is_tuple_of(thing, 2) or not is_name(thing[0]) or thing[0] in taken:
            return index
        if first_wrong_their(thing[1]) is not None or any([name not in theirs for name in thing[1]]):
            return index
        taken[thing[0]] = True
    return None


class Team:
    """Names of theirs, and ours with what each sees.

    Its attributes, which no one changes, hold it ready for those who reckon.
    """

    def __init__(self, theirs, ours):
        wrong = first_wrong_their(theirs)
        if wrong is not None:
            raise BadTheirNames(wrong)
        wrong = first_wrong_our(theirs, ours)
        if wrong is not None:
            raise BadOurs(wrong)
        self.their_names = list(theirs)
        self.our_names = [one[0] for one in ours]
        # What each of ours sees, by its places among theirs.
        self.seen_places = [[place for place, name in enumerate(theirs) if name in one[1]] for one in ours]
        self.places = {name: place for place, name in enumerate(self.their_names + self.our_names)}

    def theirs(self):
        """The names of theirs."""
        return list(self.their_names)

    def ours(self):
        """The pairs of a name of ours and the names that it sees."""
        return list(zip(self.our_names, [self.seen_names(index) for index in range(len(self.our_names))]))

    def seen_names(self, index):
        """The names that the one of ours with an index sees, in their order."""
        return [self.their_names[place] for place in self.seen_places[index]]

    def __eq__(self, other):
        return (
            isinstance(other, Team)
            and self.their_names == other.their_names
            and self.our_names == other.our_names
            and self.seen_places == other.seen_places
        )


def need_team(team):
    """Raise BadTeam for what is no team."""
    if not isinstance(team, Team):
        raise BadTeam(team)


def is_setting(team, thing):
    """Whether an object is a list of a truth for each of theirs."""
    return is_tuple_of(thing, len(team.their_names)) and all([isinstance(truth, bool) for truth in thing])


def all_settings(team):
    """All settings, ascending."""
    many = len(team.their_names)
    return [position_at(many, index) for index in range(1 << many)]


def need_clauses(team, clauses):
    """The lists of literals of clauses of a team's marks; BadClauses is raised for the first thing that is none."""
    if not is_list(clauses):
        raise BadClauses(0)
    found = []
    for index, clause in enumerate(clauses):
        literals = literal_list(team.places, clause)
        if literals is None:
            raise BadClauses(index)
        found.append(literals)
    return found


def is_seen_function(seen, thing):
    """Whether an object is a function whose literals are of marks that are seen."""
    if not is_list(thing):
        return False
    for pair in thing:
        if not is_tuple_of(pair, 2) or not isinstance(pair[1], bool):
            return False
        literals = name_literals(pair[0])
        if literals is None or any([mark not in seen for mark, _ in literals]):
            return False
    return True


def is_policy_of_team(team, thing):
    """Whether an object is a team policy."""
    if not isinstance(thing, dict) or len(thing) != len(team.our_names):
        return False
    for index, name in enumerate(team.our_names):
        if name not in thing or not is_seen_function(team.seen_names(index), thing[name]):
            return False
    return True


def need_team_policy(team, policy):
    """Raise BadTeamPolicy for what is none."""
    if not is_policy_of_team(team, policy):
        raise BadTeamPolicy(policy)


def is_team_policy(team, thing):
    """Whether an object is a team policy."""
    need_team(team)
    return is_policy_of_team(team, thing)


def truths_at(team, policy, setting):
    """The dict from all marks to their truths at a setting."""
    truths = {name: truth for name, truth in zip(team.their_names, setting)}
    for name in team.our_names:
        truths[name] = seen_truth(policy[name], truths)
    return truths


def seen_truth(pairs, truths):
    """What a function tells where marks have these truths."""
    for literals, tells in pairs:
        if all([truths[mark] == side for mark, side in literals]):
            return tells
    return False


def team_sets(team, policy, setting):
    """The truths of ours, in order, at a setting."""
    need_team(team)
    need_team_policy(team, policy)
    if not is_setting(team, setting):
        raise BadSetting(setting)
    truths = truths_at(team, policy, setting)
    return [truths[name] for name in team.our_names]


def team_fails(team, clauses, policy):
    """The least setting at which a clause does not hold, with the index of the first one; None if there is none."""
    need_team(team)
    kept = need_clauses(team, clauses)
    need_team_policy(team, policy)
    for setting in all_settings(team):
        truths = truths_at(team, policy, setting)
        for index, clause in enumerate(kept):
            if not any([truths[mark] == side for mark, side in clause]):
                return (setting, index)
    return None
