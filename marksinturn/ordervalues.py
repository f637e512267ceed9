"""What a question is worth by each vector, all of them at once.

The marks are gone up from the last ones: a table of what all plays are worth
loses one mark after the other. What two vectors have alike behind is so
reckoned once for both.
"""

from marksinturn.numbersof import better_of, whole_of
from marksinturn.tables import marks_by, won_plays


class VectorValues:
    """The parts of the whole that the question is worth by each vector, as tuples."""

    def __init__(self, question):
        self.question = question
        self.ours = marks_by(question, "we")
        self.others = [place for place in range(len(question.names)) if place not in self.ours]
        self.whole = whole_of(question)
        self.vector = {}
        self.parts = {}
        plays = [self.whole if won else 0 for won in won_plays(question)]
        self.settle(len(self.others), self.ours, list(range(len(question.names))), plays)

    def settle(self, gap, ours, left, parts):
        """Settle which of ours that are left stand behind so many others, in all ways; parts are by the marks left."""
        for lot in range(1 << len(ours)):
            behind = [place for at, place in enumerate(ours) if lot >> at & 1]
            if gap > 0 or len(behind) == len(ours):
                for place in behind:
                    self.vector[place] = gap
                self.settle_ahead(gap, [place for place in ours if place not in behind], left, parts, behind)

    def settle_ahead(self, gap, ours, left, parts, behind):
        """Go on ahead of those of ours that stand behind so many others."""
        for place in behind:
            left, parts = self.without(place, left, parts)
        if gap == 0:
            self.parts[tuple([self.vector[place] for place in self.ours])] = parts[0]
        else:
            left, parts = self.without(self.others[gap - 1], left, parts)
            self.settle(gap - 1, ours, left, parts)

    def without(self, place, left, parts):
        """The marks that are left, and the parts by them, when the hand of one at a place has done its best."""
        hand = self.question.hands[place]
        block = 1 << (len(left) - 1 - left.index(place))
        found = []
        for start in range(0, len(parts), 2 * block):
            nos = parts[start:start + block]
            yeses = parts[start + block:start + 2 * block]
            found.extend([better_of(hand, no, yes) for no, yes in zip(nos, yeses)])
        return [other for other in left if other != place], found


def at_or_above(vector, other):
    """Whether no number of a vector is less than that of another one."""
    return all([number >= less for number, less in zip(vector, other)])


def least_vectors(vectors):
    """Those of some vectors that are at or above no other one, ascending."""
    unlike = {tuple(vector): True for vector in vectors}
    found = []
    # What is below stands ahead.
    for vector in sorted(unlike):
        if not any([at_or_above(vector, other) for other in found]):
            found.append(vector)
    return [list(vector) for vector in found]


def greatest_vectors(vectors):
    """Those of some vectors that are at or below no other one, ascending."""
    unlike = {tuple(vector): True for vector in vectors}
    found = []
    for vector in sorted(unlike, reverse=True):
        if not any([at_or_above(other, vector) for other in found]):
            found.append(vector)
    return [list(vector) for vector in found[::-1]]
