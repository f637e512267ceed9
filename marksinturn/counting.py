"""Policies of ours counted by their worth, and the best ones in their order."""

from marksinturn.choices import told_choices
from marksinturn.countlevels import count_levels, inner_gains, outer_gains
from marksinturn.errors import BadK
from marksinturn.numbersof import better_of, fraction_of, whole_of
from marksinturn.positions import need_position
from marksinturn.questions import need_question
from marksinturn.shapes import is_below


def counted(question, position):
    """The dict, ascending, from worths to how many policies have just this from a position on."""
    need_question(question)
    need_position(question, position)
    counts = count_levels(question, position)[0][0]
    whole = whole_of(question)
    return {fraction_of(part, whole): counts[part] for part in sorted(list(counts))}


def best_policy(question, k):
    """The k-th of the policies whose worth from the start is the value."""
    need_question(question)
    levels = count_levels(question, [])
    counts = levels[0][0]
    value = max(list(counts))
    if not is_below(k, counts[value]):
        raise BadK(k)
    pick = Pick(question, levels)
    pick.choose(0, 0, {part: int(part == value) for part in counts}, k)
    return told_choices(question, pick.tables)


class Pick:
    """One policy that is picked from all, by what is counted of them."""

    def __init__(self, question, levels):
        self.question = question
        self.levels = levels
        self.tables = [[False] * len(level) for level in levels]

    def choose(self, place, index, gains, k):
        """Pick from a position on; the pair of the parts that are got and the k left for what comes behind.

        Each policy counts as often as its parts gain, and of all that is
        counted, in order, the one that has the k-th is picked.
        """
        if place == len(self.question.names):
            return list(self.levels[place][index])[0], k
        no = self.levels[place + 1][2 * index]
        yes = self.levels[place + 1][2 * index + 1]
        hand = self.question.hands[place]
        if hand == "we":
            first = sum([many * gains[part] for part, many in no.items()])
            self.tables[place][index] = k >= first
            if k >= first:
                return self.choose(place + 1, 2 * index + 1, gains, k - first)
            return self.choose(place + 1, 2 * index, gains, k)
        one, k = self.choose(place + 1, 2 * index, outer_gains(hand, no, yes, gains), k)
        other, k = self.choose(place + 1, 2 * index + 1, inner_gains(hand, one, yes, gains), k)
        return better_of(hand, one, other), k
