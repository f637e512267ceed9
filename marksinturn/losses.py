"""What is lost where wishes have prices: in plays, if all do their best, and by policies."""

from marksinturn.chancefree import need_no_chance
from marksinturn.choices import best_choices
from marksinturn.functions import need_policy, need_side, policy_tables
from marksinturn.literals import position_code
from marksinturn.lossvalues import loss_levels, need_priced_wishes, told_loss
from marksinturn.positions import need_play, need_position
from marksinturn.tables import fitting, yes_patterns
from marksinturn.trees import need_prices


def loss_of(question, prices, play):
    """What is lost in a play."""
    need_priced_wishes(question, prices)
    need_play(question, play)
    code = position_code(play)
    if not all([guard & code for guard in question.guard_codes]):
        return 0
    return sum([price for price, wish in zip(prices, question.wish_codes) if not wish & code])


def least_loss(question, prices, position):
    """What is lost from a position on, in the mean, if all do their best."""
    need_priced_wishes(question, prices)
    need_position(question, position)
    return told_loss(question, loss_levels(question, prices, position, {})[0][0])


def policy_loss(question, prices, hand, policy):
    """The greatest mean loss, of they the least, where the policy is played from the beginning."""
    need_priced_wishes(question, prices)
    need_side(hand)
    need_policy(question, hand, policy)
    levels = loss_levels(question, prices, [], policy_tables(question, hand, policy))
    return told_loss(question, levels[0][0])


def loss_policy(question, prices, hand):
    """A policy of the hand with which that is the least loss."""
    need_priced_wishes(question, prices)
    need_side(hand)
    return best_choices(question, hand, loss_levels(question, prices, [], {}))


def spared(question, prices):
    """The wishes that hold in each play that never comes to a greater least loss than the beginning's."""
    need_no_chance(question)
    need_prices(question, prices, 0)
    levels = loss_levels(question, prices, [], {})
    plays = pattern_of_plays(levels, levels[0][0], 0)
    return [index for index, fails in enumerate(failing(question)) if not plays & fails]


def given_up(question, prices):
    """The wishes that fail in each play that never comes to another least loss than the beginning's."""
    need_no_chance(question)
    need_prices(question, prices, 0)
    levels = loss_levels(question, prices, [], {})
    plays = pattern_of_plays(levels, levels[0][0], levels[0][0])
    return [index for index, fails in enumerate(failing(question)) if not plays & ~fails]


def failing(question):
    """For each wish the pattern of the plays in which it fails."""
    patterns = yes_patterns(len(question.names))
    return [fitting(patterns, turn) for turn in question.wish_turns]


def pattern_of_plays(levels, low, high):
    """The pattern of the plays at each of whose positions the parts are between two numbers."""
    alive = [0]
    for level in levels[1:]:
        alive = [2 * index + side for index in alive for side in (0, 1) if low <= level[2 * index + side] <= high]
    return sum([1 << index for index in alive])
