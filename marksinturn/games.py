"""Games of rounds: judged, unrolled for some rounds, and one round by itself as a question."""

from marksinturn.literals import literal_list
from marksinturn.questions import Question
from marksinturn.refusals import BadGame, BadLot, BadMany
from marksinturn.shapes import is_count, is_list, is_name, is_tuple_of


def are_pairs(thing):
    """Whether an object is a list of pairs of a name and something."""
    return is_list(thing) and all([is_tuple_of(one, 2) and is_name(one[0]) for one in thing])


def are_clauses(names, thing):
    """Whether an object is a list of clauses of marks with these names."""
    places = {name: place for place, name in enumerate(names)}
    return is_list(thing) and all([literal_list(places, clause) is not None for clause in thing])


def is_game(thing):
    """Whether an object is a game: kept marks, turns, nexts and rules."""
    if not is_tuple_of(thing, 4):
        return False
    kept, turns, nexts, rules = thing
    if not are_pairs(kept) or not are_pairs(turns) or not turns:
        return False
    if not all([isinstance(truth, bool) for _, truth in kept]):
        return False
    if not all([isinstance(hand, str) and hand in ("we", "they") for _, hand in turns]):
        return False
    names = names_of_game(thing)
    if len(set(names)) != len(names) or not is_tuple_of(nexts, len(kept)):
        return False
    if not all([isinstance(name, str) and name in names for name in nexts]):
        return False
    return are_clauses(names, rules)


def need_game(game):
    """Raise BadGame for what is no game."""
    if not is_game(game):
        raise BadGame(game)


def names_of_game(game):
    """The names of the kept marks, then of the turns."""
    return [one[0] for one in game[0]] + [one[0] for one in game[1]]


def stood_for(clause, standing):
    """The clause with what stands for each mark: the name of another one, or a truth that it has.

    Literals that then hold make it go, as both truths of one mark do: None.
    """
    found = {}
    for mark, truth in clause:
        other = standing[mark]
        if isinstance(other, str):
            if found.setdefault(other, truth) != truth:
                return None
        elif other == truth:
            return None
    return list(found.items())


def clauses_that_stay(clauses, standing):
    """The clauses with what stands for each mark, without those that go."""
    found = [stood_for(clause, standing) for clause in clauses]
    return [clause for clause in found if clause is not None]


def unrolled(game, many):
    """The question of so many rounds."""
    need_game(game)
    if not is_count(many):
        raise BadMany(many)
    kept, turns, nexts, rules = game
    standing = {name: truth for name, truth in kept}
    marks = []
    wishes = []
    for _ in range(many):
        for name, hand in turns:
            standing[name] = f"m{len(marks) + 1}"
            marks.append((standing[name], hand))
        wishes.extend(clauses_that_stay(rules, standing))
        behind = [standing[name] for name in nexts]
        for (name, _), other in zip(kept, behind):
            standing[name] = other
    return Question(marks, wishes, [])


def round_question(game, lot):
    """The question in which they choose a state of a lot, and we keep one round and the lot."""
    need_game(game)
    kept, turns, nexts, rules = game
    if not are_clauses([name for name, _ in kept], lot):
        raise BadLot(lot)
    marks = [(name, "they") for name, _ in kept] + [(name, hand) for name, hand in turns]
    standing = {name: other for (name, _), other in zip(kept, nexts)}
    wishes = [list(rule) for rule in rules] + clauses_that_stay(lot, standing)
    return Question(marks, wishes, lot)
