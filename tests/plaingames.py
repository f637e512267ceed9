"""Games of rounds by the document's words: each round played through."""

from itertools import product

HANDS = ("we", "they")


def made_game(source, kept=2, turns=3, rules=4):
    names = source.sample(["k", "b", "m1", "u", "y", "a2", "v", "w"], kept + turns)
    kept = names[:source.randint(0, kept)]
    turns = names[len(kept):][:source.randint(1, turns)]
    marks = kept + turns
    clauses = []
    for _ in range(source.randint(0, rules)):
        some = source.sample(marks, min(len(marks), source.randint(0 if source.random() < 0.05 else 1, 3)))
        clauses.append([(name, source.random() < 0.5) for name in some])
    return (
        [(name, source.random() < 0.5) for name in kept],
        [(name, source.choice(HANDS)) for name in turns],
        [source.choice(marks) for _ in kept],
        clauses,
    )


def names_of_game(game):
    return [name for name, _ in game[0]] + [name for name, _ in game[1]]


def states_of(game):
    return [list(truths) for truths in product([False, True], repeat=len(game[0]))]


def keeps_rules(game, truths):
    return all(any(truths[mark] == side for mark, side in rule) for rule in game[3])


def next_state(game, truths):
    return [truths[name] for name in game[2]]


def can_keep(game, state, good, is_kept=keeps_rules):
    """Whether we can keep one round from a state, and end it in a state that is good."""
    def from_here(truths, left):
        if not left:
            return is_kept(game, truths) and good(next_state(game, truths))
        (name, hand), left = left[0], left[1:]
        sides = [from_here({**truths, name: side}, left) for side in (False, True)]
        return any(sides) if hand == "we" else all(sides)

    return from_here(dict(zip([name for name, _ in game[0]], state)), list(game[1]))


def lots_of_states(game, is_kept=keeps_rules):
    """The states from which no round, one round, two rounds .. can be kept, till they stay."""
    lots = [states_of(game)]
    while len(lots) < 2 or lots[-1] != lots[-2]:
        lots.append([state for state in states_of(game) if can_keep(game, state, lambda one: one in lots[-1], is_kept)])
    return lots


def beginning(game):
    return [truth for _, truth in game[0]]
