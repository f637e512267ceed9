"""States of games: from which ones rounds can be kept, what is played, what matters at the beginning."""

from marksinturn.functions import need_policy, told_truth
from marksinturn.games import need_game, round_question
from marksinturn.literals import position_code
from marksinturn.refusals import BadMany, BadStates, BadTheirs
from marksinturn.shapes import is_count, is_list, is_tuple_of
from marksinturn.tables import index_of, level_ahead, position_at, won_plays


class Rounds:
    """One round of a game, from all states at once, which are told by their indexes among positions."""

    def __init__(self, game):
        kept, turns, nexts, _ = game
        self.many = len(kept)
        self.hands = [hand for _, hand in turns]
        self.beginning = index_of([truth for _, truth in kept])
        question = round_question(game, [])
        self.are_kept = won_plays(question)
        behind = [len(question.names) - 1 - question.places[name] for name in nexts]
        # The state behind each play of a round.
        self.states = [index_of([play >> at & 1 for at in behind]) for play in range(len(self.are_kept))]
        # For each state whether no round, one round, two rounds .. can be kept from it, until that stays so.
        self.levels = [[True] * (1 << self.many)]
        ahead = self.ahead_of(self.levels[0])
        while ahead != self.levels[-1]:
            self.levels.append(ahead)
            ahead = self.ahead_of(ahead)

    def ahead_of(self, good):
        """For each state whether a round can be kept from it that ends in a state that is good."""
        level = [is_kept and good[state] for is_kept, state in zip(self.are_kept, self.states)]
        for hand in self.hands[::-1]:
            level = level_ahead(hand, None, level)
        return level

    def good_for(self, many):
        """For each state whether so many rounds can be kept from it, of None all that come."""
        if many is None or many >= len(self.levels):
            return self.levels[-1]
        return self.levels[many]

    def lost_within(self):
        """The least number of rounds that cannot be kept from the beginning; None if all can be."""
        lost = [rounds for rounds, good in enumerate(self.levels) if not good[self.beginning]]
        return min(lost, default=None)


def states_for(game, many):
    """The states from which we can keep so many rounds, of None all that come, ascending."""
    need_game(game)
    if many is not None and not is_count(many):
        raise BadMany(many)
    good = Rounds(game).good_for(many)
    return [position_at(len(game[0]), index) for index, is_good in enumerate(good) if is_good]


def is_state_of(game, thing):
    """Whether an object is a list of the truths of the kept marks."""
    return is_tuple_of(thing, len(game[0])) and all([isinstance(truth, bool) for truth in thing])


def need_states(game, states):
    """Raise BadStates for the first thing that is no state, or stood ahead."""
    if not is_list(states):
        raise BadStates(0)
    seen = set()
    for index, thing in enumerate(states):
        if not is_state_of(game, thing) or tuple(thing) in seen:
            raise BadStates(index)
        seen.add(tuple(thing))


def lot_at(game, states):
    """The lot that bars each state that is none of some, ascending."""
    need_game(game)
    need_states(game, states)
    names = [name for name, _ in game[0]]
    others = [True] * (1 << len(names))
    for state in states:
        others[index_of(state)] = False
    barred = [position_at(len(names), index) for index, is_other in enumerate(others) if is_other]
    return [[(name, not truth) for name, truth in zip(names, state)] for state in barred]


def kept_sides(game):
    """The kept marks of which the truth that the game begins with decides whether it is kept for ever."""
    need_game(game)
    rounds = Rounds(game)
    good = rounds.good_for(None)
    found = []
    for place, (name, _) in enumerate(game[0]):
        other = rounds.beginning ^ 1 << (rounds.many - 1 - place)
        if good[other] != good[rounds.beginning]:
            found.append(name)
    return found


def need_theirs(game, theirs):
    """Raise BadTheirs for the first thing that is no list of truths, one for each mark of theirs in a round."""
    if not is_list(theirs):
        raise BadTheirs(0)
    many = len([hand for _, hand in game[1] if hand == "they"])
    for index, thing in enumerate(theirs):
        if not is_tuple_of(thing, many) or not all([isinstance(truth, bool) for truth in thing]):
            raise BadTheirs(index)


def played(game, policy, theirs):
    """The pair of the rounds that are played, until a rule fails, and the index of this rule; None if none does."""
    need_game(game)
    question = round_question(game, [])
    need_policy(question, "we", policy)
    need_theirs(game, theirs)
    state = [truth for _, truth in game[0]]
    rounds = []
    for told in theirs:
        truths = round_played(game, question, policy, state, told)
        rounds.append(truths)
        code = position_code(truths)
        failed = [index for index, rule in enumerate(question.wish_codes) if not rule & code]
        if failed:
            return (rounds, failed[0])
        state = [truths[question.places[name]] for name in game[2]]
    return (rounds, None)


def round_played(game, question, policy, state, told):
    """The truths of a round from a state, theirs as they are told, ours by a policy."""
    truths = list(state)
    many = 0
    for name, hand in game[1]:
        if hand == "we":
            truths.append(told_truth(question, policy[name], position_code(truths)))
        else:
            truths.append(told[many])
            many += 1
    return truths
