"""The cheapest trees, and the tables that show that none are cheaper."""

from marksinturn.bestrows import need_kind
from marksinturn.certainty import is_certain_code
from marksinturn.chancefree import need_no_chance
from marksinturn.errors import BadLimit
from marksinturn.judging import dropping_hand, without_mark
from marksinturn.leastprices import LeastPrices
from marksinturn.shapes import is_count
from marksinturn.states import all_states, is_state, state_code, told_state
from marksinturn.trees import LOWEST_PRICE, leaf_price, marks_behind, need_prices


def need_priced(question, kind, prices):
    """Raise what is due of a question without chance, a kind, and the prices of its wishes."""
    need_no_chance(question)
    need_kind(kind)
    need_prices(question, prices, LOWEST_PRICE)


def cheapest_tree(question, kind, prices):
    """A tree of the least price whose row sets nothing; None if there is none."""
    need_priced(question, kind, prices)
    least = LeastPrices(question, kind, prices, None)
    if 0 not in least.costs:
        return None
    tree, _ = least.tree_within(0)
    return tree


def cheapest_price(question, kind, prices):
    """The least price of a tree whose row sets nothing; None if there is none."""
    need_priced(question, kind, prices)
    return LeastPrices(question, kind, prices, None).costs.get(0)


def greatest_table(question, kind, prices, limit):
    """The dict from all states to the least price of a tree whose row lies within, or the limit if it is less."""
    need_priced(question, kind, prices)
    if not is_count(limit):
        raise BadLimit(limit)
    costs = LeastPrices(question, kind, prices, limit).costs
    return {state: costs.get(state_code(state), limit) for state in all_states(question)}


def table_fault(question, kind, prices, thing):
    """None for a table; else the least state whose number lacks, or is too great; nothing for other keys."""
    need_priced(question, kind, prices)
    if not isinstance(thing, dict) or not all([is_state(question, key) for key in thing]):
        return ""
    states = all_states(question)
    for state in states:
        if state not in thing or not is_count(thing[state]):
            return state
    judging = TableJudging(question, kind, prices, thing)
    for state in states:
        if judging.is_too_great(state_code(state)):
            return state
    return None


class TableJudging:
    """The numbers of a table, ready to be compared with what others allow."""

    def __init__(self, question, kind, prices, table):
        self.question = question
        self.kind = kind
        self.prices = prices
        self.dropping = dropping_hand(kind)
        self.behind = [marks_behind(question, place) for place in range(len(question.names))]
        self.table = table

    def number_at(self, code):
        """The number of the state with a code."""
        return self.table[told_state(self.question, code)]

    def is_too_great(self, code):
        """Whether the number of the state with a code is greater than the others allow."""
        number = self.number_at(code)
        if is_certain_code(self.question, self.kind, code):
            if number > leaf_price(self.question, self.kind, self.prices, code):
                return True
        return any([number > self.bound(code, place) for place in range(len(self.question.names))])

    def bound(self, code, place):
        """The greatest number that a state may have, as far as the mark at a place tells."""
        if code >> (2 * place) & 3:
            return self.number_at(without_mark(code, place))
        bits = (1 << (2 * place), 2 << (2 * place))
        if self.question.hands[place] == self.dropping:
            return min([self.number_at(code & ~self.behind[place] | bit) for bit in bits])
        return sum([self.number_at(code | bit) for bit in bits])
