"""A reader that takes the text of a question sign by sign, as long as it can go on."""

from marksinturn.namestock import NameStock
from marksinturn.shapes import FIGURES

MARKS = 0
WISHES = 1
GUARDS = 2
# The words that a line may begin with, by what the lines ahead were; the ones
# that are soonest at an end stand first.
WORDS = (
    ("wish", "guard", "we", "they", "chance"),
    ("wish", "guard"),
    ("guard",),
)
MOST_FIGURES = 9
# The greatest p: there is a q of nine figures above it.
GREATEST_P = 999999998


class TextReader:
    """What was read of a text so far: lines that ended, and the piece that has begun."""

    def __init__(self):
        self.lines = MARKS
        self.marks = []
        self.wishes = []
        self.guards = []
        self.stock = NameStock()
        self.start_line()

    def start_line(self):
        """Be ahead of a line."""
        self.part = "word"
        self.piece = ""
        self.word = ""
        self.p = 0
        self.q = 0
        self.clause = []
        self.used = NameStock()

    def is_between_lines(self):
        """Whether a text may end here."""
        return self.part == "word" and self.piece == ""

    def take(self, sign):
        """Take the next sign, if a text can go on with it; whether it can."""
        if self.part == "word":
            return self.take_in_word(sign)
        if self.part == "p":
            return self.take_in_p(sign)
        if self.part == "q":
            return self.take_in_q(sign)
        if self.part == "name":
            return self.take_in_name(sign)
        return self.take_in_literal(sign)

    def go_on(self, part):
        """Be ahead of the next piece of a line."""
        self.part = part
        self.piece = ""

    def take_in_word(self, sign):
        """Take a sign of the word that begins a line."""
        words = WORDS[self.lines]
        if sign not in (" ", "\n"):
            self.piece += sign
            return any([word.startswith(self.piece) for word in words])
        if self.piece not in words:
            return False
        self.word = self.piece
        is_clause = self.word in ("wish", "guard")
        if sign == "\n":
            if is_clause:
                self.end_clause()
            return is_clause
        if is_clause:
            self.go_on("literal")
            return self.is_mark_left()
        self.go_on("p" if self.word == "chance" else "name")
        return True

    def take_in_p(self, sign):
        """Take a sign of the first one of the odds."""
        if sign == " " and self.piece != "":
            self.p = int(self.piece)
            self.go_on("q")
            return True
        return self.take_figure(sign) and int(self.piece) <= GREATEST_P

    def take_in_q(self, sign):
        """Take a sign of the second one of the odds."""
        if sign == " " and self.piece != "":
            self.q = int(self.piece)
            self.go_on("name")
            return self.q > self.p
        return self.take_figure(sign) and greatest_number(self.piece) > self.p

    def take_figure(self, sign):
        """Take a figure of a number of at most nine, none ahead being a nought."""
        if sign not in FIGURES or (self.piece == "" and sign == "0"):
            return False
        self.piece += sign
        return len(self.piece) <= MOST_FIGURES

    def take_in_name(self, sign):
        """Take a sign of a new mark's name, or the end of its line."""
        if sign != "\n":
            self.piece += sign
            return self.stock.leaves_one(self.piece)
        if self.piece == "" or self.stock.has(self.piece):
            return False
        self.stock.put(self.piece)
        hand = (self.p, self.q) if self.word == "chance" else self.word
        self.marks.append((self.piece, hand))
        self.start_line()
        return True

    def take_in_literal(self, sign):
        """Take a sign of a literal, or the blank or the end of the line behind it."""
        if sign not in (" ", "\n"):
            self.piece += sign
            return self.begins_mark_left(bare_name(self.piece))
        name = bare_name(self.piece)
        if not self.stock.has(name) or self.used.has(name):
            return False
        self.used.put(name)
        self.clause.append((name, not self.piece.startswith("!")))
        if sign == "\n":
            self.end_clause()
            return True
        self.go_on("literal")
        return self.is_mark_left()

    def is_mark_left(self):
        """Whether some mark is not in the clause yet."""
        return len(self.clause) < len(self.marks)

    def begins_mark_left(self, start):
        """Whether some mark that is not in the clause yet begins so."""
        return self.stock.beginning(start) > self.used.beginning(start)

    def marks_left(self):
        """The names of the marks that are not in the clause yet."""
        return [mark[0] for mark in self.marks if not self.used.has(mark[0])]

    def end_clause(self):
        """Put the clause of the line to its like."""
        if self.word == "wish":
            self.lines = WISHES
            self.wishes.append(self.clause)
        else:
            self.lines = GUARDS
            self.guards.append(self.clause)
        self.start_line()


def bare_name(piece):
    """The name in what there is of a literal."""
    return piece[1:] if piece.startswith("!") else piece


def greatest_number(piece):
    """The greatest number of at most nine figures that begins so."""
    return int(piece.ljust(MOST_FIGURES, "9"))


def read_signs(text):
    """The pair of a reader behind a text and None, or the place of the first wrong sign."""
    reader = TextReader()
    line = 1
    sign = 0
    for one in text:
        sign += 1
        if not reader.take(one):
            return reader, (line, sign)
        if one == "\n":
            line += 1
            sign = 0
    if reader.is_between_lines():
        return reader, None
    return reader, (line, sign + 1)
