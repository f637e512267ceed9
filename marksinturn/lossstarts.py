"""Start rows that tell what is lost, of few literals that are for."""

from marksinturn.numbersof import whole_of
from marksinturn.startcodes import hitting


class LossStarts:
    """The start rows of a question with prices, of each kind: triples of a code, parts, and how they are made."""

    def __init__(self, question, prices):
        self.question = question
        self.prices = prices
        self.whole = whole_of(question)
        self.lowest = -sum(prices) * self.whole
        self.highest = 0

    def most(self, here, target):
        """A start row that tells where a code is for that we are worth so much at most; None without one."""
        question = self.question
        if target >= 0:
            return 0, 0, ("none",)
        lost = [(turn, index) for index, turn in enumerate(question.wish_turns) if not turn & ~here]
        loss = sum([self.prices[index] for _, index in lost])
        if -loss * self.whole > target or not all([guard & here for guard in question.guard_codes]):
            return None
        code = 0
        indexes = []
        # What is not needed goes, the ones that end farthest behind ahead.
        for turn, index in sorted(lost, reverse=True):
            if -(loss - self.prices[index]) * self.whole <= target:
                loss -= self.prices[index]
            else:
                code |= turn
                indexes.append(index)
        return hitting(question.guard_codes, here, code), -loss * self.whole, ("fails", sorted(indexes))

    def least(self, here, target):
        """A start row that tells where a code is for that we are worth so much at least; None without one."""
        found = []
        for index, turn in enumerate(self.question.guard_turns):
            if not turn & ~here:
                found.append((turn, 0, ("broken", index)))
        wishes = self.question.wish_codes
        loss = sum([price for price, wish in zip(self.prices, wishes) if not wish & here])
        if -loss * self.whole >= target:
            found.append(self.holding(here, target, loss))
        return min(found, key=lambda one: one[0], default=None)

    def holding(self, here, target, loss):
        """The start row of the wishes that hold, without those that may as well not; a loss comes of all others."""
        wishes = self.question.wish_codes
        failing = [index for index, wish in enumerate(wishes) if not wish & here]
        holding = [(wish & here & -(wish & here), index) for index, wish in enumerate(wishes) if wish & here]
        for _, index in sorted(holding, reverse=True):
            if -(loss + self.prices[index]) * self.whole >= target:
                loss += self.prices[index]
                failing.append(index)
        kept = [wish for index, wish in enumerate(wishes) if index not in failing]
        return hitting(kept, here, 0), -loss * self.whole, ("holds", sorted(failing))
