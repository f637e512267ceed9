"""Sums of a team's marks: answers of what each sees, lots that bar them, and who has to see what.

What of theirs the answers bring into each sum has to take out what stands
there. For each mark of theirs that is a question by itself: who of those who
see it take it into their answers. Another one is which answers are turned.
"""

from marksinturn.refusals import NotTheirs
from marksinturn.shapes import is_tuple_of
from marksinturn.sumcodes import (
    NEVER,
    added_up,
    is_lot,
    last_place,
    lot_indexes,
    mark_bit,
    need_sums,
    neat_rows,
    sum_code,
    told_sum,
)
from marksinturn.teams import need_team


class TeamSums:
    """Sums of a team's marks as codes, theirs ahead of ours; what is due is raised."""

    def __init__(self, team, sums):
        need_team(team)
        self.team = team
        self.their_many = len(team.their_names)
        self.our_many = len(team.our_names)
        self.codes = need_sums(team.their_names + team.our_names, sums)

    def rows_for(self, bit, takers):
        """The neat rows of what is asked of takers, ours by their places, where something of a bit has to go out."""
        codes = []
        for code in self.codes:
            asked = [mark_bit(taker) for taker in takers if code & mark_bit(self.their_many + taker)]
            codes.append(sum(asked) + (1 if code & bit else 0))
        return neat_rows(codes)

    def all_rows(self):
        """For each mark of theirs, and last for the truths: its bit, the neat rows for it, and how many may take it."""
        found = []
        for place in range(self.their_many):
            seers = [taker for taker, seen in enumerate(self.team.seen_places) if place in seen]
            found.append((mark_bit(place), self.rows_for(mark_bit(place), seers), len(seers)))
        found.append((1, self.rows_for(1, list(range(self.our_many))), self.our_many))
        return found


def are_barred(rows):
    """Whether neat rows ask for what cannot be."""
    return len(rows) > 0 and rows[0][0] == NEVER


def team_answers(team, sums):
    """The dict from ours to answers by which all sums hold whatever they do; None if there is none."""
    asked = TeamSums(team, sums)
    found = [0 for _ in team.our_names]
    for bit, rows, _ in asked.all_rows():
        if are_barred(rows):
            return None
        for code, _ in rows:
            # Who is the last one in no row takes nothing; so each last one takes what its row asks for.
            if code & 1:
                found[last_place(code)] |= bit
    return {name: told_sum(team.their_names, code) for name, code in zip(team.our_names, found)}


def team_lot(team, sums):
    """The pair of a lot of sums and of a mark that bars it, None for one that never holds; None if there is none."""
    asked = TeamSums(team, sums)
    for bit, rows, _ in asked.all_rows():
        if are_barred(rows):
            lot = lot_indexes(rows[0][1])
            return (lot, None if bit == 1 else team.their_names[last_place(bit)])
    return None


def is_team_answers(team, sums, thing):
    """Whether an object is a dict from ours to answers of what each sees, by which all sums hold whatever they do."""
    asked = TeamSums(team, sums)
    if not isinstance(thing, dict) or len(thing) != asked.our_many:
        return False
    answers = []
    for index, name in enumerate(team.our_names):
        if name not in thing:
            return False
        places = {team.their_names[place]: place for place in team.seen_places[index]}
        answers.append(sum_code(places, thing[name]))
    if None in answers:
        return False
    for code in asked.codes:
        # What theirs and the answers make together has to be nothing but the truth.
        left = code & (mark_bit(asked.their_many) - 1)
        for index, answer in enumerate(answers):
            if code & mark_bit(asked.their_many + index):
                left ^= answer
        if left:
            return False
    return True


def is_team_lot(team, sums, thing):
    """Whether an object is a pair of a lot of sums and of a mark that bars it, None for one that never holds."""
    asked = TeamSums(team, sums)
    if not is_tuple_of(thing, 2) or not is_lot(thing[0], len(asked.codes)):
        return False
    code = added_up(asked.codes, thing[0])
    if thing[1] is None:
        return code == NEVER
    if not isinstance(thing[1], str) or thing[1] not in team.their_names:
        return False
    place = team.places[thing[1]]
    seers = [taker for taker, seen in enumerate(team.seen_places) if place in seen]
    if any([code & mark_bit(asked.their_many + taker) for taker in seers]):
        return False
    return code & mark_bit(place) > 0


def must_see(team, sums, mark):
    """All least lots of ours such that no lot of sums bars by a mark of theirs if just these see it."""
    asked = TeamSums(team, sums)
    if not isinstance(mark, str) or mark not in team.their_names:
        raise NotTheirs(mark)
    bit = mark_bit(team.places[mark])
    least = []
    for seers in sorted([lot_indexes(lot) for lot in range(1 << asked.our_many)], key=len):
        if not any([all([index in seers for index in other]) for other in least]):
            if not are_barred(asked.rows_for(bit, seers)):
                least.append(seers)
    return [[team.our_names[index] for index in seers] for seers in sorted(least)]


def answers_count(team, sums):
    """How many dicts of answers there are by which all sums hold, the marks of each answer in the team's order."""
    asked = TeamSums(team, sums)
    free = 0
    for _, rows, takers in asked.all_rows():
        if are_barred(rows):
            return 0
        free += takers - len(rows)
    return 1 << free
