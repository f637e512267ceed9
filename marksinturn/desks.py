"""A desk: clauses are laid and taken away, rows are kept and stand as long as they are right, back and forth."""

from marksinturn.bestrows import told_number, told_part
from marksinturn.errors import BadClause
from marksinturn.hanging import rows_kept
from marksinturn.judging import need_paper
from marksinturn.keptrows import Lying
from marksinturn.literals import in_marks_order, literal_list
from marksinturn.positions import need_position
from marksinturn.questions import Question
from marksinturn.refusals import BadSide, NotLaid
from marksinturn.rowsearch import value_search
from marksinturn.shapes import is_integer


class Desk:
    """Marks with the clauses and the rows that lie there, what was done, and what was taken back."""

    def __init__(self, marks):
        self.now = Lying(Question(marks, [], []).marks(), [], [], [])
        self.next_tag = 0
        # The words of deeds, with what lay there ahead of each, and of those taken back, with what lay there behind.
        self.past = []
        self.ahead = []

    def deed(self, word, lying):
        """Do something by which this lies there."""
        self.past.append((word, self.now))
        self.now = lying
        self.ahead = []

    def lay(self, side, clause):
        """Lay a clause as a wish or as a guard; its tag."""
        if not isinstance(side, str) or side not in ("wish", "guard"):
            raise BadSide(side)
        places = self.now.question.places
        literals = literal_list(places, clause)
        if literals is None:
            raise BadClause(clause)
        tag = self.next_tag
        self.next_tag += 1
        self.deed("lay", self.now.with_laid(self.now.laid + [(tag, side, in_marks_order(places, literals))]))
        return tag

    def take(self, tag):
        """Take the clause with a tag away; its side and it."""
        found = [one for one in self.now.laid if is_integer(tag) and one[0] == tag]
        if not found:
            raise NotLaid(tag)
        self.deed("take", self.now.with_laid([one for one in self.now.laid if one[0] != tag]))
        _, side, clause = found[0]
        return (side, list(clause))

    def laid(self):
        """The tags, the sides and the clauses that lie there."""
        return [(tag, side, list(clause)) for tag, side, clause in self.now.laid]

    def as_question(self):
        """The question of the marks and of what lies there."""
        return self.now.question

    def keep(self, paper):
        """Keep the rows of a paper; how many are kept then, standing or not."""
        right = need_paper(self.now.question, paper)
        self.deed("keep", self.now.with_rows(right))
        return len(self.now.rows)

    def kept(self):
        """The kept rows that stand."""
        return self.now.stood().rows

    def bounds(self, position):
        """The pair of the numbers that rows which stand tell of a position."""
        need_position(self.now.question, position)
        right = self.now.stood()
        return (told_number(right, "least", position), told_number(right, "most", position))

    def settle(self, position):
        """The value of a position; rows that show it are kept, where those that stand do not."""
        need_position(self.now.question, position)
        right = self.now.stood()
        lying = self.now
        if told_part(right, "least", position) != told_part(right, "most", position):
            lying = lying.with_rows(need_paper(lying.question, rows_that_lack(right, position)))
        self.deed("settle", lying)
        return told_number(self.now.stood(), "least", position)

    def undo(self):
        """Take the last deed back; its word, None if there is none."""
        if not self.past:
            return None
        word, lying = self.past.pop()
        self.ahead.append((word, self.now))
        self.now = lying
        return word

    def redo(self):
        """Do again what was last taken back; its word, None if there is none."""
        if not self.ahead:
            return None
        word, lying = self.ahead.pop()
        self.past.append((word, self.now))
        self.now = lying
        return word

    def copy(self):
        """A desk on which all is so, too, and that goes on by itself."""
        other = Desk(self.now.marks)
        other.now = self.now
        other.next_tag = self.next_tag
        other.past = list(self.past)
        other.ahead = list(self.ahead)
        return other

    def __eq__(self, other):
        return isinstance(other, Desk) and self.now == other.now and self.ahead == other.ahead


def rows_that_lack(right, position):
    """The paper of rows that tell a position's value, of each kind of which right rows do not."""
    search = value_search(right.question)
    part = search.part_at(position)
    kinds = [kind for kind in ("least", "most") if told_part(right, kind, position) != part]
    found = [search.settle(kind, position, part) for kind in kinds]
    rows, _ = rows_kept(search.told_rows(), found)
    return rows
