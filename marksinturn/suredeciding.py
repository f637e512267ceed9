"""What a policy decides where just some marks of the other hand are set."""

from marksinturn.certainty import is_lost_code, is_won_code
from marksinturn.literals import code_of, truth_bit, turned_code
from marksinturn.tables import marks_by


class SureDeciding:
    """A policy of a hand, ready to be asked what is sure by it."""

    def __init__(self, question, hand, policy):
        self.question = question
        self.hand = hand
        self.functions = []
        for place in marks_by(question, hand):
            pairs = [
                (code_of(question.places, literals), turned_code(question.places, literals), tells)
                for literals, tells in policy[question.names[place]]
            ]
            self.functions.append((place, pairs))

    def is_sure(self, code):
        """Whether the hand wins for certain, where a code's literals are for, with the marks that are decided."""
        for place, pairs in self.functions:
            truth = decided(pairs, code)
            if truth is not None:
                code |= truth_bit(place, truth)
        if self.hand == "we":
            return is_won_code(self.question, code)
        return is_lost_code(self.question, code)


def decided(pairs, here):
    """The truth that a function tells where a code's literals are for; None if that is open."""
    for code, turn, tells in pairs:
        if not turn & here:
            return tells if not code & ~here else None
    return False
