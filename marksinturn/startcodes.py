"""Few literals, of those that are for, with which it is lost or won for certain.

Of what would do, the codes are taken that are the least numbers: their last
marks stand farthest ahead, so rows made of them tell of most positions.
"""

from marksinturn.numbersof import whole_of


class StartRows:
    """The start rows of a question, of each kind: triples of a code, parts, and how they are made."""

    def __init__(self, question):
        self.question = question
        self.lowest = 0
        self.highest = whole_of(question)

    def most(self, here, target):
        """A start row that tells where a code is for that it is worth so much at most; None without one."""
        if target >= self.highest:
            return 0, self.highest, ("any",)
        code = lost_code(self.question, here)
        return None if code is None else (code, 0, ("lost",))

    def least(self, here, target):
        """A start row that tells where a code is for that it is worth so much at least; None without one."""
        if target <= 0:
            return 0, 0, ("none",)
        code = won_code(self.question, here)
        return None if code is None else (code, self.highest, ("won",))


def lost_code(question, here):
    """A code within another one that is lost for certain; None if there is none."""
    wishes = [turn for turn in question.wish_turns if not turn & ~here]
    if not wishes or not all([guard & here for guard in question.guard_codes]):
        return None
    return min([hitting(question.guard_codes, here, wish) for wish in wishes])


def won_code(question, here):
    """A code within another one that is won for certain; None if there is none."""
    found = [turn for turn in question.guard_turns if not turn & ~here]
    if all([wish & here for wish in question.wish_codes]):
        found.append(hitting(question.wish_codes, here, 0))
    return min(found, default=None)


def hitting(clauses, here, code):
    """A code, within another one, with what is taken up already, that has a literal of each clause."""
    for clause in clauses:
        one = clause & here
        # Where only one literal is for there is no choice; the others come behind.
        if not one & (one - 1):
            code |= one
    for clause in clauses:
        if not clause & code:
            one = clause & here
            code |= one & -one
    return code
