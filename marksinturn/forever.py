"""Games that are kept for ever, or lost within some rounds."""

from marksinturn.endrows import ending_paper
from marksinturn.games import are_clauses, need_game, round_question, unrolled
from marksinturn.gamestates import Rounds, lot_at, states_for
from marksinturn.judging import judged
from marksinturn.shapes import is_integer, is_tuple_of

SURE = (1, 1)


def has_sure_row(question, kind, thing):
    """Whether an object is a paper with a row of a kind, without literals, that tells of won, or of lost, alone."""
    right, fault = judged(question, thing)
    if fault is not None:
        return False
    sure = right.whole if kind == "least" else 0
    return any([
        row[0] == kind and code == 0 and part == sure
        for row, code, part in zip(right.rows, right.codes, right.parts)
    ])


def is_kept(game, thing):
    """Whether an object is a pair of a lot that holds in the beginning, and a paper that shows that we keep it."""
    need_game(game)
    if not is_tuple_of(thing, 2):
        return False
    lot, paper = thing
    beginning = [tuple(pair) for pair in game[0]]
    if not are_clauses([name for name, _ in beginning], lot):
        return False
    if not all([any([tuple(literal) in beginning for literal in clause]) for clause in lot]):
        return False
    return has_sure_row(round_question(game, lot), "least", paper)


def kept_for_ever(game):
    """A lot that holds in the beginning, and a paper that shows that we keep it; None if there is none."""
    need_game(game)
    states = states_for(game, None)
    if [truth for _, truth in game[0]] not in states:
        return None
    lot = lot_at(game, states)
    return (lot, ending_paper(round_question(game, lot), SURE))


def lost_within(game):
    """The least number of rounds that we cannot keep; None if we can keep all."""
    need_game(game)
    return Rounds(game).lost_within()


def is_lost_game(game, thing):
    """Whether an object is a number of rounds, a paper that shows they are lost, and one that less are kept."""
    need_game(game)
    if not is_tuple_of(thing, 3):
        return False
    many, paper, other = thing
    # Papers are right, so of no other number there are such; it may be too great to be unrolled.
    if not is_integer(many) or many != Rounds(game).lost_within():
        return False
    if not has_sure_row(unrolled(game, many), "most", paper):
        return False
    return has_sure_row(unrolled(game, many - 1), "least", other)


def lost_papers(game):
    """The number of rounds within which the game is lost, and papers that show it; None if it is kept."""
    need_game(game)
    many = Rounds(game).lost_within()
    if many is None:
        return None
    return (many, ending_paper(unrolled(game, many), SURE), ending_paper(unrolled(game, many - 1), SURE))
