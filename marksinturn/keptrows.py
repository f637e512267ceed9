"""What lies on a desk: clauses with their tags, and rows that were kept, of which some stand."""

from marksinturn.hanging import led_over
from marksinturn.judging import RightRows, is_start_code
from marksinturn.questions import Question


class Lying:
    """What lies on a desk at one time, which no one changes.

    Laid are triples of a tag, a side and a clause. Rows are triples of a row,
    its code and its parts; a row names others by their places among all that
    were kept.
    """

    def __init__(self, marks, laid, rows, standing):
        self.marks = marks
        self.laid = laid
        self.rows = rows
        self.question = Question(marks, clauses_laid(laid, "wish"), clauses_laid(laid, "guard"))
        # For each row whether it stands.
        self.standing = standing

    def with_laid(self, laid):
        """The same where other clauses lie there."""
        other = Lying(self.marks, laid, self.rows, [])
        for row, code, _ in self.rows:
            how = row[4]
            if len(how) == 1:
                other.standing.append(is_start_code(other.question, how[0], code))
            else:
                other.standing.append(all([other.standing[index] for index in how[1:]]))
        return other

    def with_rows(self, right):
        """The same, and right rows of its question behind those that are kept."""
        many = len(self.rows)
        places = {index: many + index for index in range(len(right.rows))}
        more = [
            (led_over(row, places), code, part) for row, code, part in zip(right.rows, right.codes, right.parts)
        ]
        return Lying(self.marks, self.laid, self.rows + more, self.standing + [True] * len(more))

    def stood(self):
        """The right rows that stand, numbered anew."""
        right = RightRows(self.question)
        places = {}
        for index, (row, code, part) in enumerate(self.rows):
            if self.standing[index]:
                places[index] = len(places)
                right.lay(led_over(row, places), code, part)
        return right

    def __eq__(self, other):
        return (
            isinstance(other, Lying)
            and self.marks == other.marks
            and self.laid == other.laid
            and self.rows == other.rows
        )


def clauses_laid(laid, side):
    """The clauses that are laid on a side, in order."""
    return [clause for _, at, clause in laid if at == side]
