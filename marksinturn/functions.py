"""Functions of marks: pairs of literals and a truth, of which the first that fits tells."""

from marksinturn.errors import BadHand, BadPolicy
from marksinturn.literals import code_of, literal_list
from marksinturn.shapes import is_list, is_tuple_of
from marksinturn.tables import fitting, full_pattern, marks_by, truths_of, yes_patterns


def is_side(thing):
    """Whether an object is we or they, the hands that can have a policy."""
    return isinstance(thing, str) and thing in ("we", "they")


def need_side(hand):
    """Raise BadHand for neither we nor they."""
    if not is_side(hand):
        raise BadHand(hand)


def other_side(hand):
    """They for we, we for they."""
    return "they" if hand == "we" else "we"


def is_function(question, place, thing):
    """Whether an object is a function of the mark at a place."""
    if not is_list(thing):
        return False
    return all([is_function_pair(question, place, pair) for pair in thing])


def is_function_pair(question, place, thing):
    """Whether an object is a pair of literals of marks ahead of a place, and a truth."""
    if not is_tuple_of(thing, 2) or not isinstance(thing[1], bool):
        return False
    literals = literal_list(question.places, thing[0])
    if literals is None:
        return False
    return all([question.places[mark] < place for mark, _ in literals])


def is_policy_of(question, hand, thing):
    """Whether an object is a policy of the hand."""
    places = marks_by(question, hand)
    if not isinstance(thing, dict) or len(thing) != len(places):
        return False
    for place in places:
        name = question.names[place]
        if name not in thing or not is_function(question, place, thing[name]):
            return False
    return True


def need_policy(question, hand, policy):
    """Raise BadPolicy for what is no policy of the hand."""
    if not is_policy_of(question, hand, policy):
        raise BadPolicy(policy)


def plain_pairs(pairs):
    """The pairs of a function, as they are told."""
    return [([(mark, truth) for mark, truth in literals], tells) for literals, tells in pairs]


def function_pattern(question, place, pairs):
    """The pattern of the positions at which a function of the mark at a place tells Yes."""
    patterns = yes_patterns(place)
    left = full_pattern(place)
    found = 0
    for literals, tells in pairs:
        fits = left & fitting(patterns, code_of(question.places, literals))
        left ^= fits
        if tells:
            found |= fits
    return found


def policy_tables(question, hand, policy):
    """For each place of the hand what the policy sets there at each index."""
    tables = {}
    for place in marks_by(question, hand):
        pairs = policy[question.names[place]]
        tables[place] = truths_of(function_pattern(question, place, pairs), place)
    return tables


def told_truth(question, pairs, code):
    """What a function tells where the literals of a code are for."""
    for literals, tells in pairs:
        if not code_of(question.places, literals) & ~code:
            return tells
    return False
