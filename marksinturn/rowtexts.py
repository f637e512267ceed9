"""The texts of rows: written, judged, read."""

from marksinturn.literals import name_literals
from marksinturn.numberrows import is_how, is_kind
from marksinturn.numbersof import is_fraction
from marksinturn.refusals import BadRowForm, BadRowsText
from marksinturn.shapes import is_count, is_list, is_tuple_of
from marksinturn.textpieces import (
    FractionPiece,
    NamePiece,
    NumberPiece,
    WordPiece,
    literal_of_text,
    literal_text,
    read_text,
)

KINDS = ("most", "least")
HOWS = ("lost", "won", "any", "none", "drop", "join")
# How many rows each way of making names.
NAMED = {"drop": 1, "join": 2}


class RowsReader:
    """The rows that were read, and what there is of the next one."""

    def __init__(self):
        self.rows = []
        self.start_row()

    def start_row(self):
        """Be ahead of a row."""
        self.part = "kind"
        self.kind = ""
        self.place = 0
        self.number = (0, 1)
        self.literals = []
        self.taken = {}
        self.how = ()

    def may_end(self):
        """Whether the text may end ahead of a line."""
        return True

    def expected(self, piece):
        """What kind of piece can come, and what may end this one."""
        if self.part == "kind":
            return WordPiece(KINDS), " "
        if self.part == "place":
            return NumberPiece(), " "
        if self.part == "number":
            return FractionPiece(), " "
        if self.part == "literals":
            return NamePiece(self.taken, True, (":",)), " "
        if self.part == "how":
            return WordPiece(HOWS), " " if piece in NAMED else "\n"
        return NumberPiece(), " " if len(self.how) < NAMED[self.how[0]] else "\n"

    def put(self, piece, end):
        """Put a piece that is right to what there is."""
        if self.part == "kind":
            self.kind = piece
            self.part = "place"
        elif self.part == "place":
            self.place = int(piece)
            self.part = "number"
        elif self.part == "number":
            p, _, q = piece.partition("/")
            self.number = (int(p), int(q))
            self.part = "literals"
        elif self.part == "literals":
            self.put_literal(piece)
        else:
            self.how = (*self.how, piece if self.part == "how" else int(piece))
            self.part = "named"
            if end == "\n":
                self.rows.append((self.kind, self.place, self.literals, self.number, self.how))
                self.start_row()

    def put_literal(self, piece):
        """Put a literal to the others, or go on behind them."""
        if piece == ":":
            self.part = "how"
        else:
            mark, truth = literal_of_text(piece)
            self.taken[mark] = True
            self.literals.append((mark, truth))


def is_row_form(thing):
    """Whether an object has the form of a row, of whatever marks."""
    if not is_tuple_of(thing, 5):
        return False
    kind, place, lot, number, how = thing
    if not is_kind(kind) or not is_count(place) or name_literals(lot) is None:
        return False
    return is_fraction(number) and is_how(how)


def rows_text(paper):
    """The text of rows: a line for each."""
    if not is_list(paper):
        raise BadRowForm(0)
    for index, thing in enumerate(paper):
        if not is_row_form(thing):
            raise BadRowForm(index)
    return "".join([row_line(row) for row in paper])


def row_line(row):
    """The line of a row."""
    kind, place, lot, (p, q), how = row
    pieces = [kind, str(place), f"{p}/{q}"]
    pieces.extend([literal_text(mark, truth) for mark, truth in lot])
    pieces.append(":")
    pieces.extend([str(one) for one in how])
    return " ".join(pieces) + "\n"


def read_rows(text):
    """The rows of a text."""
    reader = RowsReader()
    fault = read_text(reader, text)
    if fault is not None:
        line, sign = fault
        raise BadRowsText(line, sign)
    return reader.rows


def rows_fault(text):
    """None for a text of rows, nothing of any text for no string, else the place of the first wrong sign."""
    return read_text(RowsReader(), text)
