"""The few rows of an operation, and wishes on copies of our marks: what each is to do behind each row."""

from marksinturn.tables import marks_by


def rows_of(operation, many):
    """The few rows of an operation, of so many marks of theirs, like ones once."""
    if operation == "middle":
        rows = [(False,) * many, (True,) * many]
    else:
        rows = [(operation == "both",) * many]
    rows.extend([row_but(operation, many, at) for at in range(many)])
    return list({row: True for row in rows})


def row_but(operation, many, at):
    """The row in which just the one of so many marks is otherwise than it is in most few rows."""
    usual = operation == "both"
    return tuple([usual != (place == at) for place in range(many)])


class FewCopies:
    """A plain question's few rows by an operation, with the copies of our marks behind them."""

    def __init__(self, question, operation):
        self.question = question
        self.operation = operation
        self.their_places = marks_by(question, "they")
        self.our_places = marks_by(question, "we")
        self.rows = rows_of(operation, len(self.their_places))
        # How many marks of theirs stand ahead of each place.
        self.ahead = [len([at for at in self.their_places if at < place]) for place in range(len(question.names))]

    def copy_at(self, row, place):
        """The copy of our mark at a place behind the row with an index."""
        many = self.ahead[place]
        heads = [other[:many] for other in self.rows]
        return (self.question.names[place], heads.index(heads[row][:many]))

    def all_copies(self):
        """All copies, mark by mark."""
        found = {self.copy_at(row, place): True for place in self.our_places for row in range(len(self.rows))}
        return list(found)

    def clause_at(self, row, wish):
        """The literals of copies of a wish behind a row; None if a literal of theirs holds there."""
        found = []
        for mark, truth in self.question.wish_lists[wish]:
            place = self.question.places[mark]
            if self.question.hands[place] == "we":
                found.append((self.copy_at(row, place), truth))
            elif self.rows[row][self.ahead[place]] == truth:
                return None
        return found

    def all_clauses(self):
        """The pairs of a step and its literals of copies, of all steps, in order."""
        found = []
        for row in range(len(self.rows)):
            for wish in range(len(self.question.wish_lists)):
                clause = self.clause_at(row, wish)
                if clause is not None:
                    found.append(((row, wish), clause))
        return found

    def plays(self, truths):
        """The plays of the rows in which copies have the truths of a dict."""
        found = []
        for row, theirs in enumerate(self.rows):
            play = []
            for place, hand in enumerate(self.question.hands):
                if hand == "we":
                    play.append(truths[self.copy_at(row, place)])
                else:
                    play.append(theirs[self.ahead[place]])
            found.append(play)
        return found
