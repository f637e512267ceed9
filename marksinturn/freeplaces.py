"""Free rows made of rows with places, and rows with places made of free ones."""

from marksinturn.chancefree import need_no_chance
from marksinturn.errors import BadIndex, NoEnd, SaysLittle
from marksinturn.freejudging import need_free, told_free_row
from marksinturn.freeplays import policy_by, rows_hand
from marksinturn.functions import policy_tables
from marksinturn.hanging import needed_of, needed_rows, new_places
from marksinturn.judging import dropping_hand, joined_code, need_paper, told_row, without_mark
from marksinturn.literals import truth_bit
from marksinturn.shapes import is_below
from marksinturn.startcodes import lost_code, won_code

# What makes a row of each kind that tells of what is certain.
START_WORDS = {"most": "lost", "least": "won"}


def freed(question, paper, index):
    """A free paper whose last row has no literals but those of a row that tells of lost, or of won, alone."""
    need_no_chance(question)
    right = need_paper(question, paper)
    if not is_below(index, len(right.rows)):
        raise BadIndex(index)
    kind = right.rows[index][0]
    if right.parts[index] != (0 if kind == "most" else right.whole):
        raise SaysLittle(index)
    made = []
    led = {}
    for at, is_needed in enumerate(needed_rows(right.rows, [index])):
        if is_needed:
            how = right.rows[at][4]
            if len(how) == 1:
                led[at] = len(made)
                made.append((right.codes[at], ("start",)))
            else:
                led[at] = freed_index(made, right.rows[at][1], how[0], [led[other] for other in how[1:]])
    return told_free(question, "lost" if kind == "most" else "won", made, led[index])


def freed_index(made, place, word, named):
    """The index of the free row for a drop or a join at a place, of free rows that are made, laid if it must be."""
    code = 0
    for index in named:
        # A row without the mark says by itself what the row made of it says.
        if not made[index][0] >> (2 * place) & 3:
            return index
        code |= made[index][0]
    made.append((without_mark(code, place), (word, *named)))
    return len(made) - 1


def told_free(question, kind, made, last):
    """The free paper of just the rows on which one hangs."""
    places = new_places(needed_of([how[1:] for _, how in made], [last]))
    rows = []
    for at in places:
        code, how = made[at]
        named = [places[index] for index in how[1:]]
        rows.append(told_free_row(question, kind, code, (how[0], *named)))
    return rows


def placed(question, free):
    """A paper of rows with places whose last row has no literals, and says what the last free row says."""
    need_no_chance(question)
    right = need_free(question, free)
    if right.codes[-1]:
        raise NoEnd(free)
    placing = Placing(right)
    placing.row_at(0, 0, 0)
    return [told_row(question, placing.kind, place, code, part, how) for place, code, part, how in placing.rows]


class Placing:
    """The rows with places that come of going through the plays that follow what free rows do."""

    def __init__(self, right):
        self.question = right.question
        self.hand = rows_hand(right)
        self.kind = "most" if self.hand == dropping_hand("most") else "least"
        self.tables = policy_tables(right.question, self.hand, policy_by(right))
        self.rows = []

    def lay(self, place, code, how):
        """The index of a row that is laid behind the others."""
        self.rows.append((place, code, 0 if self.kind == "most" else 1, how))
        return len(self.rows) - 1

    def has(self, row, place):
        """Whether a row has a literal of the mark at a place."""
        return self.rows[row][1] >> (2 * place) & 3 > 0

    def row_at(self, place, index, here):
        """The index of a row that tells of the position with an index and a code."""
        question = self.question
        code = lost_code(question, here) if self.kind == "most" else won_code(question, here)
        if code is not None:
            return self.lay(len(question.names), code, (START_WORDS[self.kind],))
        if question.hands[place] == self.hand:
            row = self.row_behind(place, index, here, self.tables[place][index])
            if not self.has(row, place):
                return row
            return self.lay(place, without_mark(self.rows[row][1], place), ("drop", row))
        no = self.row_behind(place, index, here, False)
        if not self.has(no, place):
            return no
        yes = self.row_behind(place, index, here, True)
        if not self.has(yes, place):
            return yes
        return self.lay(place, joined_code(self.rows[no][1], self.rows[yes][1], place), ("join", no, yes))

    def row_behind(self, place, index, here, truth):
        """The index of a row that tells of the position behind, with the mark at a place set."""
        return self.row_at(place + 1, 2 * index + int(truth), here | truth_bit(place, truth))
