"""What policies are worth, against all that others do."""

from marksinturn.choices import best_choices
from marksinturn.functions import need_policy, other_side, policy_tables
from marksinturn.numbersof import fraction_of, whole_of
from marksinturn.policies import need_asked_policy
from marksinturn.positions import need_position
from marksinturn.questions import need_question
from marksinturn.tables import followed, position_at, won_plays, worth_levels


def told_worth(question, position, tables):
    """The fraction that a position is worth where these tables are played."""
    levels = worth_levels(question, position, tables)
    return fraction_of(levels[0][0], whole_of(question))


def policy_worth(question, hand, policy, position):
    """The least chance that we win, of they the greatest, where the policy is played from a position on."""
    need_asked_policy(question, hand, policy)
    need_position(question, position)
    return told_worth(question, position, policy_tables(question, hand, policy))


def both_worth(question, ours, theirs, position):
    """The chance that we win where both policies are played from a position on."""
    need_question(question)
    need_policy(question, "we", ours)
    need_policy(question, "they", theirs)
    need_position(question, position)
    tables = policy_tables(question, "we", ours)
    tables.update(policy_tables(question, "they", theirs))
    return told_worth(question, position, tables)


def reply(question, hand, policy):
    """A policy of the other hand with which both are worth, everywhere, what the policy is."""
    need_asked_policy(question, hand, policy)
    levels = worth_levels(question, [], policy_tables(question, hand, policy))
    return best_choices(question, other_side(hand), levels)


def beaten_play(question, hand, policy):
    """The first play that follows the policy and that its hand does not win; None without one."""
    need_asked_policy(question, hand, policy)
    length = len(question.names)
    wins = won_plays(question)
    for index in followed(question, policy_tables(question, hand, policy))[length]:
        if wins[index] != (hand == "we"):
            return position_at(length, index)
    return None
