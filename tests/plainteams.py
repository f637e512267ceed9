"""Teams by the document's words: settings, copies, all that can be done."""

from itertools import product

from marksinturn.teams import Team

THEIRS = ("u", "b", "w", "a")
OURS = ("z", "c", "y", "d")


def settings_of(team):
    return [list(truths) for truths in product([False, True], repeat=len(team.theirs()))]


def seen_at(team, seen, setting):
    truths = dict(zip(team.theirs(), setting))
    return tuple(truths[name] for name in seen)


def all_copies(team):
    found = {(name, seen_at(team, seen, setting)) for name, seen in team.ours() for setting in settings_of(team)}
    return sorted(found)


def all_ways(team):
    """Every way to say what each copy does."""
    copies = all_copies(team)
    return [dict(zip(copies, truths)) for truths in product([False, True], repeat=len(copies))]


def truths_by(team, way, setting):
    truths = dict(zip(team.theirs(), setting))
    for name, seen in team.ours():
        truths[name] = way[name, seen_at(team, seen, setting)]
    return truths


def keeps_at(clauses, truths):
    return all(any(truths[mark] == side for mark, side in clause) for clause in clauses)


def wins_at(team, clauses, way, settings):
    return all(keeps_at(clauses, truths_by(team, way, setting)) for setting in settings)


def made_team(source, theirs=2, ours=2, see=None):
    names = list(THEIRS[:source.randint(0, theirs)])
    ours = OURS[:source.randint(0, ours)]
    return Team(names, [(name, source.sample(names, source.randint(0, len(names)) if see is None else see)) for name in ours])


def made_team_clauses(source, team, most=6):
    names = team.theirs() + [name for name, _ in team.ours()]
    clauses = []
    for _ in range(source.randint(0, most)):
        size = min(len(names), source.randint(0 if source.random() < 0.05 else 1, 4))
        clauses.append([(name, source.random() < 0.5) for name in source.sample(names, size)])
    return clauses


def teams_with_clauses(source, many, theirs=2, ours=2, most=6):
    for _ in range(many):
        team = made_team(source, theirs, ours)
        yield team, made_team_clauses(source, team, most)


def copied_by_words(team, clause, setting):
    """The copied clause; None if a literal of theirs holds."""
    theirs = dict(zip(team.theirs(), setting))
    if any(theirs.get(mark) is side for mark, side in clause):
        return None
    sides = dict(clause)
    return [((name, seen_at(team, seen, setting)), sides[name]) for name, seen in team.ours() if name in sides]


def is_paper_by_words(team, clauses, paper):
    """Whether things in the forms of rows are a team paper."""
    made = []
    for row in paper:
        if row[0] == "copied":
            if len(row[1]) != len(team.theirs()) or row[2] >= len(clauses):
                return False
            literals = copied_by_words(team, clauses[row[2]], row[1])
            if literals is None:
                return False
            made.append(set(literals))
        else:
            copy = (row[3][0], tuple(row[3][1]))
            if max(row[1], row[2]) >= len(made) or (copy, False) not in made[row[1]] or (copy, True) not in made[row[2]]:
                return False
            both = {one for one in made[row[1]] | made[row[2]] if one[0] != copy}
            if len({one for one, _ in both}) < len(both):
                return False
            made.append(both)
    return bool(made) and not made[-1]
