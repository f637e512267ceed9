"""Whether a team wins: by a policy, or a paper that shows that it loses; and how many ways there are to win."""

from marksinturn.choices import pairs_of_table
from marksinturn.copies import need_copies
from marksinturn.countingways import count_ways
from marksinturn.literals import truth_bit
from marksinturn.questions import Question, need_question
from marksinturn.refusals import NoTeam
from marksinturn.tables import position_at
from marksinturn.teams import Team, all_settings, need_clauses, need_team


def team_solved(team, clauses):
    """The pair of won and of a team policy that wins, or of lost and of a paper that shows it."""
    found = need_copies(team, clauses)
    given = found.given(all_settings(team))
    solving = found.solving([code for _, _, code in given])
    if solving.last is None:
        return ("won", told_policy(found, solving.held))
    rows = []
    for _, how in solving.made():
        if how[0] == "given":
            setting, index, _ = given[how[1]]
            rows.append(("copied", list(setting), index))
        else:
            rows.append(("join", how[1], how[2], found.copies[how[3]]))
    return ("lost", rows)


def told_policy(found, held):
    """The team policy by which copies do what a code of their literals says."""
    team = found.team
    policy = {}
    for index, name in enumerate(team.our_names):
        seen = team.seen_names(index)
        copies = [(name, tuple(position_at(len(seen), at))) for at in range(1 << len(seen))]
        table = [held & truth_bit(found.places[copy], True) > 0 for copy in copies]
        policy[name] = pairs_of_table(seen, table)
    return policy


def team_count(team, clauses):
    """How many ways there are to say what each copy does such that all clauses hold at all settings."""
    found = need_copies(team, clauses)
    codes = [code for _, _, code in found.given(all_settings(team))]
    return count_ways(len(found.copies), codes)


def forced_copies(team, clauses):
    """The dict from the copies that are set alike in all such ways to their truths."""
    found = need_copies(team, clauses)
    codes = [code for _, _, code in found.given(all_settings(team))]
    solving = found.solving(codes)
    forced = {}
    if solving.last is None:
        for place, copy in enumerate(found.copies):
            truth = solving.held & truth_bit(place, True) > 0
            if found.solving(codes + [truth_bit(place, not truth)]).last is not None:
                forced[copy] = truth
    return forced


def in_line(team, clauses):
    """The question in which each of ours comes behind what it sees; None if one sees less than one ahead of it."""
    need_team(team)
    wishes = need_clauses(team, clauses)
    marks = []
    stood = []
    for index, name in enumerate(team.our_names):
        seen = team.seen_names(index)
        if any([other not in seen for other in stood]):
            return None
        marks.extend([(other, "they") for other in seen if other not in stood])
        marks.append((name, "we"))
        stood = seen
    marks.extend([(other, "they") for other in team.their_names if other not in stood])
    return Question(marks, wishes, [])


def team_of(question):
    """The team of a question's marks, each of ours seeing all of theirs ahead."""
    need_question(question)
    if question.guard_lists or any([not isinstance(hand, str) for hand in question.hands]):
        raise NoTeam(question)
    theirs = []
    ours = []
    for name, hand in zip(question.names, question.hands):
        if hand == "they":
            theirs.append(name)
        else:
            ours.append((name, list(theirs)))
    return Team(theirs, ours)
