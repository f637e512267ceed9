"""The search for rows: down from a position, and up again with rows that tell of it.

The values of all positions are reckoned first, so no way is gone in vain. A
row that is found often tells of more than the position it was looked for
at: then the other side of a mark need not be looked at, and where a row that
is there tells enough, nothing is laid.
"""

from marksinturn.judging import dropping_hand, joined_code, told_row, without_mark
from marksinturn.literals import position_code, truth_bit
from marksinturn.numbersof import better_of, whole_of
from marksinturn.startcodes import StartRows
from marksinturn.tables import index_of, worth_levels


class FoundRow:
    """A row of a search, with what has to be for where it tells as a code."""

    def __init__(self, index, kind, place, code, part, how):
        self.index = index
        self.kind = kind
        self.place = place
        self.code = code
        self.part = part
        self.how = how


def value_search(question):
    """A search for rows that tell what a question's positions are worth."""
    return RowSearch(question, worth_levels(question, [], {}), StartRows(question))


class RowSearch:
    """The rows of a question that were found, both kinds in one list.

    The levels are the parts that all positions are worth; the starts tell
    which rows are there from the start, and the least and the most parts.
    """

    def __init__(self, question, levels, starts):
        self.question = question
        self.length = len(question.names)
        self.whole = whole_of(question)
        self.levels = levels
        self.starts = starts
        self.rows = []

    def part_at(self, position):
        """The parts of the whole that a position is worth."""
        return self.levels[len(position)][index_of(position)]

    def settle(self, kind, position, target):
        """The index of a row that tells of a position that much, at most or at least, as it is worth."""
        here = position_code(position)
        live = [row for row in self.rows if row.kind == kind]
        for place, truth in enumerate(position):
            live = not_barred(live, truth_bit(place, not truth))
        proof = Proof(self, kind)
        return proof.prove(len(position), index_of(position), here, target, live).index

    def settle_both(self, position):
        """The indexes of rows with which both bounds are what a position is worth, where it needs them."""
        part = self.part_at(position)
        found = []
        if part > 0:
            found.append(self.settle("least", position, part))
        if part < self.whole:
            found.append(self.settle("most", position, part))
        return found

    def lay(self, kind, place, code, part, how):
        """Lay a row behind the others."""
        row = FoundRow(len(self.rows), kind, place, code, part, how)
        self.rows.append(row)
        return row

    def told(self, row):
        """A row as it is told."""
        return told_row(self.question, row.kind, row.place, row.code, row.part, row.how)

    def told_rows(self):
        """The rows as they are told."""
        return [self.told(row) for row in self.rows]


def not_barred(rows, bar):
    """The rows that may still tell where what a bit means is not for."""
    return [row for row in rows if not row.code & bar]


class Proof:
    """How the rows of one kind come about in a search."""

    def __init__(self, search, kind):
        self.search = search
        self.kind = kind
        self.hands = search.question.hands
        self.dropping = dropping_hand(kind)

    def is_enough(self, part, target):
        """Whether so many parts say what is looked for."""
        return part <= target if self.kind == "most" else part >= target

    def prove(self, place, index, here, target, live):
        """A row that tells enough of the position with an index and a code.

        Live are the rows of the kind that nothing which is set there bars.
        """
        row = self.known(place, target, live)
        if row is None:
            row = self.started(here, target)
        if row is not None:
            return row
        if self.hands[place] == self.dropping:
            return self.dropped(place, index, here, target, live)
        return self.joined(place, index, here, target, live)

    def known(self, place, target, live):
        """The row that is there and tells enough, its last mark farthest ahead; None without one."""
        end = 1 << (2 * place)
        found = [row for row in live if row.code < end and row.place >= place and self.is_enough(row.part, target)]
        return min(found, key=lambda row: row.code, default=None)

    def started(self, here, target):
        """A start row that is laid and tells enough; None if there is none."""
        search = self.search
        found = search.starts.most(here, target) if self.kind == "most" else search.starts.least(here, target)
        if found is None:
            return None
        code, part, how = found
        return search.lay(self.kind, search.length, code, part, how)

    def side_row(self, truth, place, index, here, target, live):
        """A row that tells enough where the mark at a place is set to a truth."""
        rows = not_barred(live, truth_bit(place, not truth))
        return self.prove(place + 1, 2 * index + int(truth), here | truth_bit(place, truth), target, rows)

    def dropped(self, place, index, here, target, live):
        """A row ahead of a mark whose hand sets it to the side that tells enough."""
        level = self.search.levels[place + 1]
        truth = not self.is_enough(level[2 * index], target)
        row = self.side_row(truth, place, index, here, target, live)
        if not row.code >> (2 * place):
            return row
        return self.search.lay(self.kind, place, without_mark(row.code, place), row.part, ("drop", row.index))

    def joined(self, place, index, here, target, live):
        """A row ahead of a mark whose sides both tell enough, or enough together."""
        hand = self.hands[place]
        since = len(self.search.rows)
        aim = target if isinstance(hand, str) else self.search.levels[place + 1][2 * index]
        no = self.side_row(False, place, index, here, aim, live)
        if not no.code >> (2 * place) and self.is_enough(no.part, target):
            return no
        if not isinstance(hand, str):
            aim = self.lacking(hand, no.part, target)
        yes = self.side_row(True, place, index, here, aim, live + self.search.rows[since:])
        if not yes.code >> (2 * place) and self.is_enough(yes.part, target):
            return yes
        code = joined_code(no.code, yes.code, place)
        part = better_of(hand, no.part, yes.part)
        return self.search.lay(self.kind, place, code, part, ("join", no.index, yes.index))

    def lacking(self, odds, part, target):
        """What has to be told of chance's Yes, where so much is told of its No, for the mean to be enough."""
        p, q = odds
        parts = q * target - (q - p) * part
        if self.kind == "most":
            return min(self.search.starts.highest, parts // p)
        return max(self.search.starts.lowest, -(-parts // p))
