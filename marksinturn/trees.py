"""Trees of rows, whose leaves are lost states, or won ones, and what they cost."""

from marksinturn.bestrows import need_kind
from marksinturn.certainty import is_certain_code
from marksinturn.chancefree import need_no_chance
from marksinturn.errors import BadPrices, BadTree
from marksinturn.judging import dropping_hand, without_mark
from marksinturn.shapes import is_integer, is_list
from marksinturn.states import is_state, state_code, told_state

LOWEST_PRICE = 1


def is_tree(question, kind, thing):
    """Whether an object is a tree of the kind."""
    need_no_chance(question)
    need_kind(kind)
    return tree_code(question, kind, thing) is not None


def tree_state(question, kind, tree):
    """The row of a tree, as a state."""
    need_no_chance(question)
    need_kind(kind)
    return told_state(question, need_tree(question, kind, tree))


def tree_price(question, kind, prices, tree):
    """What the leaves of a tree cost together."""
    need_no_chance(question)
    need_kind(kind)
    need_prices(question, prices, LOWEST_PRICE)
    need_tree(question, kind, tree)
    return sum([leaf_price(question, kind, prices, code) for code in leaf_codes(tree)])


def need_tree(question, kind, tree):
    """The code of a tree's row; BadTree is raised for what is none."""
    code = tree_code(question, kind, tree)
    if code is None:
        raise BadTree(tree)
    return code


def need_prices(question, prices, lowest):
    """Raise BadPrices for what is no list of a price, from the lowest one on, for each wish."""
    if not is_list(prices):
        raise BadPrices(0)
    for index, price in enumerate(prices):
        if not is_integer(price) or price < lowest:
            raise BadPrices(index)
    if len(prices) != len(question.wish_codes):
        raise BadPrices(len(question.wish_codes))


def leaf_price(question, kind, prices, code):
    """What a lost state, or a won one, with this code costs."""
    if kind == "least":
        return 1
    return min([price for price, turn in zip(prices, question.wish_turns) if not turn & ~code])


def tree_code(question, kind, thing):
    """The code of the row of a tree that an object is; None if it is none."""
    if not is_list(thing) or not thing or not isinstance(thing[0], str):
        return None
    if thing[0] == "leaf" and len(thing) == 2 and is_state(question, thing[1]):
        code = state_code(thing[1])
        return code if is_certain_code(question, kind, code) else None
    if len(thing) < 3 or not isinstance(thing[1], str) or thing[1] not in question.places:
        return None
    place = question.places[thing[1]]
    is_dropping = question.hands[place] == dropping_hand(kind)
    if thing[0] == "drop" and len(thing) == 3 and is_dropping:
        return dropped_code(question, place, tree_code(question, kind, thing[2]))
    if thing[0] == "join" and len(thing) == 4 and not is_dropping:
        one = tree_code(question, kind, thing[2])
        return None if one is None else set_apart_code(one, tree_code(question, kind, thing[3]), place)
    return None


def dropped_code(question, place, code):
    """The code without the mark at a place that is dropped; None if it can not be."""
    if code is None or not code >> (2 * place) & 3 or code & marks_behind(question, place):
        return None
    return without_mark(code, place)


def marks_behind(question, place):
    """The code of both truths of all marks behind a place that the hand of this one does not set."""
    hand = question.hands[place]
    return sum([3 << (2 * at) for at in range(place + 1, len(question.names)) if question.hands[at] != hand])


def set_apart_code(one, other, place):
    """The code of what two codes set, the one the mark at a place to No, the other to Yes, and no other one apart."""
    if other is None or not one >> (2 * place) & 1 or not other >> (2 * place) & 2:
        return None
    code = without_mark(one | other, place)
    # A bit for each mark: the lower one of its two.
    lower = ((1 << (2 * code.bit_length())) - 1) // 3
    return None if code & code >> 1 & lower else code


def leaf_codes(tree):
    """The codes of the leaves of a tree, from left to right."""
    if tree[0] == "leaf":
        return [state_code(tree[1])]
    found = []
    for branch in tree[2:]:
        found.extend(leaf_codes(branch))
    return found
