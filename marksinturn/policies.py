"""Policies of a hand: a function for each of its marks."""

from marksinturn.errors import BadMark, BadPosition
from marksinturn.functions import (
    is_policy_of,
    need_policy,
    need_side,
    plain_pairs,
    policy_tables,
    told_truth,
)
from marksinturn.literals import code_of, position_code
from marksinturn.positions import need_position
from marksinturn.questions import need_question
from marksinturn.tables import (
    fitting,
    followed,
    marks_by,
    position_at,
    yes_patterns,
)


def is_policy(question, hand, thing):
    """Whether an object is a policy of the hand."""
    need_question(question)
    need_side(hand)
    return is_policy_of(question, hand, thing)


def need_asked_policy(question, hand, policy):
    """Raise what is due of a question, a hand and a policy of it."""
    need_question(question)
    need_side(hand)
    need_policy(question, hand, policy)


def set_by(question, hand, policy, position):
    """The truth that the policy sets next at a position."""
    need_asked_policy(question, hand, policy)
    need_position(question, position)
    place = len(position)
    if place == len(question.names) or question.hands[place] != hand:
        raise BadPosition(position)
    return told_truth(question, policy[question.names[place]], position_code(position))


def follows(question, hand, policy, position):
    """Whether each mark of the hand was set as the policy tells."""
    need_asked_policy(question, hand, policy)
    need_position(question, position)
    for place in marks_by(question, hand):
        if place < len(position):
            code = position_code(position[:place])
            if told_truth(question, policy[question.names[place]], code) != position[place]:
                return False
    return True


def plays_of(question, hand, policy):
    """The plays that follow the policy, as Python compares lists."""
    need_asked_policy(question, hand, policy)
    length = len(question.names)
    indexes = followed(question, policy_tables(question, hand, policy))[length]
    return [position_at(length, index) for index in indexes]


def policies_part(question, hand, policy, other):
    """The least position that follows both policies and where they part; None if they are alike."""
    need_asked_policy(question, hand, policy)
    need_policy(question, hand, other)
    ones = policy_tables(question, hand, policy)
    others = policy_tables(question, hand, other)
    parts = []
    level = [0]
    for place in range(len(question.names)):
        if place in ones:
            apart = [index for index in level if ones[place][index] != others[place][index]]
            parts.extend([position_at(place, index) for index in apart])
            alike = [index for index in level if ones[place][index] == others[place][index]]
            level = [2 * index + int(ones[place][index]) for index in alike]
        else:
            level = [2 * index + side for index in level for side in (0, 1)]
    return min(parts, default=None)


def bare_policy(question, hand, policy):
    """The alike policy that looks at the marks of others alone."""
    need_asked_policy(question, hand, policy)
    return bare_of_tables(question, hand, policy_tables(question, hand, policy))


def bare_of_tables(question, hand, tables):
    """The policy that looks at the marks of others alone, and does what tables tell where they are followed."""
    levels = followed(question, tables)
    found = {}
    for place in marks_by(question, hand):
        yeses = [index for index in levels[place] if tables[place][index]]
        found[question.names[place]] = [
            (others_literals(question, hand, place, index), True) for index in yeses
        ]
    return found


def others_literals(question, hand, place, index):
    """The literals of the marks that others set ahead of a place, at the index of a position."""
    position = position_at(place, index)
    return [
        (question.names[at], truth)
        for at, truth in enumerate(position)
        if question.hands[at] != hand
    ]


def thin_policy(question, hand, policy):
    """The alike policy without the pairs that are the first to fit nowhere where it is followed."""
    need_asked_policy(question, hand, policy)
    levels = followed(question, policy_tables(question, hand, policy))
    found = {}
    for place in marks_by(question, hand):
        name = question.names[place]
        found[name] = thin_pairs(question, place, plain_pairs(policy[name]), levels[place])
    return found


def thin_pairs(question, place, pairs, indexes):
    """The pairs that are the first to fit at one of the indexes."""
    patterns = yes_patterns(place)
    left = 0
    for index in indexes:
        left |= 1 << index
    kept = []
    for literals, tells in pairs:
        fits = left & fitting(patterns, code_of(question.places, literals))
        left ^= fits
        if fits:
            kept.append((literals, tells))
    return kept


def joined_policy(question, hand, mark, policy, other):
    """The policy that plays one policy behind No of a mark, another one behind Yes."""
    need_question(question)
    need_side(hand)
    if not is_mark_of_others(question, hand, mark):
        raise BadMark(mark)
    need_policy(question, hand, policy)
    need_policy(question, hand, other)
    found = {}
    for place in marks_by(question, hand):
        name = question.names[place]
        pairs = plain_pairs(policy[name])
        if place > question.places[mark]:
            pairs = pairs_behind(mark, False, pairs)
            pairs.extend(pairs_behind(mark, True, plain_pairs(other[name])))
        found[name] = pairs
    return found


def is_mark_of_others(question, hand, mark):
    """Whether an object is a mark that another hand or chance sets."""
    if not isinstance(mark, str) or mark not in question.places:
        return False
    return question.hands[question.places[mark]] != hand


def pairs_behind(mark, side, pairs):
    """The pairs, each as it can fit where the mark is set to a side."""
    found = []
    for literals, tells in pairs:
        if (mark, side) in literals:
            found.append((literals, tells))
        elif (mark, not side) not in literals:
            found.append((literals + [(mark, side)], tells))
    return found
