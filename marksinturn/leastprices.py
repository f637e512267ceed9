"""The least prices of trees whose rows lie within states, the cheapest states ahead.

A state is its code here. What it costs comes of what it is, or of states
that are no dearer; so whatever is the cheapest of those that are left is
told for good.
"""

from heapq import heappop, heappush

from marksinturn.certainty import is_certain_code
from marksinturn.judging import dropping_hand, without_mark
from marksinturn.states import all_states, state_code
from marksinturn.trees import leaf_price, marks_behind, set_apart_code


class LeastPrices:
    """For each state's code the least price, and how it comes about; a limit bars all that is not below it."""

    def __init__(self, question, kind, prices, limit):
        self.question = question
        self.dropping = dropping_hand(kind)
        self.behind = [marks_behind(question, place) for place in range(len(question.names))]
        self.limit = limit
        self.costs = {}
        self.hows = {}
        self.offers = {}
        self.queue = []
        self.many = 0
        for state in all_states(question):
            code = state_code(state)
            if is_certain_code(question, kind, code):
                self.offer(code, leaf_price(question, kind, prices, code), ("leaf", state))
        while self.queue:
            _, _, code = heappop(self.queue)
            if code not in self.costs:
                self.costs[code] = self.offers[code]
                self.lead_on(code)

    def offer(self, code, price, how):
        """Put a price of a state to those that wait, if none as low is there; of like ones the first is taken first."""
        if self.limit is not None and price >= self.limit:
            return
        if code not in self.offers or price < self.offers[code]:
            self.offers[code] = price
            self.hows[code] = how
            self.many += 1
            heappush(self.queue, (price, self.many, code))

    def lead_on(self, code):
        """Offer what a state's price makes of the prices of others."""
        price = self.costs[code]
        for place, hand in enumerate(self.question.hands):
            if not code >> (2 * place) & 3:
                for bit in (1, 2):
                    self.offer(code | bit << (2 * place), price, ("within", code))
            elif hand != self.dropping:
                other = code ^ 3 << (2 * place)
                if other in self.costs:
                    self.offer(without_mark(code, place), price + self.costs[other], ("join", place))
            elif not code & self.behind[place]:
                self.offer(without_mark(code, place), price, ("drop", place, code))

    def tree_within(self, code):
        """The pair of a cheapest tree whose row lies within a state that has a price, and its row's code."""
        how = self.hows[code]
        if how[0] == "leaf":
            return how, code
        if how[0] == "within":
            return self.tree_within(how[1])
        place = how[1]
        name = self.question.names[place]
        if how[0] == "drop":
            tree, row = self.tree_within(how[2])
            if not row >> (2 * place) & 3:
                return tree, row
            return ("drop", name, tree), without_mark(row, place)
        one, no = self.tree_within(code | 1 << (2 * place))
        other, yes = self.tree_within(code | 2 << (2 * place))
        return ("join", name, one, other), set_apart_code(no, yes, place)
