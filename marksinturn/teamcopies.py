"""Copies: what each of ours does where it sees so; clauses of a team as clauses of copies, in codes."""

from marksinturn.clausesolving import Solving
from marksinturn.literals import truth_bit
from marksinturn.tables import position_at


def sorted_copies(team):
    """All copies of a team, the names ahead."""
    found = []
    for index, name in enumerate(team.our_names):
        many = len(team.seen_places[index])
        found.extend([(name, tuple(position_at(many, at))) for at in range(1 << many)])
    return sorted(found)


class TeamCopies:
    """A team's clauses on copies."""

    def __init__(self, team, clauses):
        self.team = team
        self.clauses = clauses
        self.copies = sorted_copies(team)
        self.places = {copy: place for place, copy in enumerate(self.copies)}

    def copy_at(self, index, setting):
        """The copy of the one of ours with an index at a setting."""
        seen = tuple([setting[place] for place in self.team.seen_places[index]])
        return (self.team.our_names[index], seen)

    def copied(self, setting, clause):
        """The copied clause of a clause, in ours' order; None if a literal of theirs holds."""
        many = len(self.team.their_names)
        truths = {}
        for mark, truth in clause:
            place = self.team.places[mark]
            if place >= many:
                truths[place - many] = truth
            elif setting[place] == truth:
                return None
        return [(self.copy_at(index, setting), truths[index]) for index in sorted(truths)]

    def coded(self, literals):
        """The code of literals of copies."""
        return sum([truth_bit(self.places[copy], truth) for copy, truth in literals])

    def given(self, settings):
        """The triples of a setting, the index of a clause and the code of the copied clause, setting by setting."""
        found = []
        for setting in settings:
            for index, clause in enumerate(self.clauses):
                literals = self.copied(setting, clause)
                if literals is not None:
                    found.append((setting, index, self.coded(literals)))
        return found

    def solving(self, codes):
        """What is found out of clauses of copies."""
        return Solving(len(self.copies), codes)

    def are_beaten(self, settings):
        """Whether no team policy keeps all clauses at all of some settings."""
        return self.solving([code for _, _, code in self.given(settings)]).last is not None
