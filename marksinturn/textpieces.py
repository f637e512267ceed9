"""Texts read line by line and piece by piece, and the pieces that can stand in them.

A piece of each kind knows whether one that is right begins so; so the first
wrong sign of a text is looked for in one piece alone.
"""

from math import gcd

from marksinturn.namestock import NameStock
from marksinturn.numbersof import is_fraction
from marksinturn.shapes import FIGURES, is_name
from marksinturn.textreading import GREATEST_P, MOST_FIGURES


class WordPiece:
    """One of some words."""

    def __init__(self, words):
        self.words = words

    def begins(self, start):
        """Whether some such piece begins so."""
        return any([word.startswith(start) for word in self.words])

    def is_right(self, piece):
        """Whether a piece is such a one."""
        return piece in self.words


class NamePiece:
    """A name that is not taken, with a sign for No ahead of it if this may be, or one of some words."""

    def __init__(self, taken, is_literal, words):
        self.taken = taken
        self.is_literal = is_literal
        self.words = words

    def bare(self, start):
        """The name in what there is of a piece."""
        return start[1:] if self.is_literal and start.startswith("!") else start

    def begins(self, start):
        """Whether some such piece begins so."""
        name = self.bare(start)
        if name == "" or any([word.startswith(start) for word in self.words]):
            return True
        stock = NameStock()
        for one in self.taken:
            stock.put(one)
        return stock.leaves_one(name)

    def is_right(self, piece):
        """Whether a piece is such a one."""
        name = self.bare(piece)
        return piece in self.words or is_name(name) and name not in self.taken


class NumberPiece:
    """A number in figures."""

    def begins(self, start):
        """Whether some such piece begins so."""
        return is_in_figures(start)

    def is_right(self, piece):
        """Whether a piece is such a one."""
        return is_in_figures(piece)


class FractionPiece:
    """A fraction from nought to one, shortest."""

    def begins(self, start):
        """Whether some such piece begins so."""
        p, stroke, q = start.partition("/")
        if not is_in_figures(p) or int(p) > GREATEST_P:
            return False
        return stroke + q in ("", "/") or is_in_figures(q) and can_divide(int(p), q)

    def is_right(self, piece):
        """Whether a piece is such a one."""
        p, _, q = piece.partition("/")
        return is_in_figures(p) and is_in_figures(q) and is_fraction((int(p), int(q)))


def is_in_figures(text):
    """Whether a text is a number in figures, few enough, without noughts ahead."""
    if not 1 <= len(text) <= MOST_FIGURES or not all([sign in FIGURES for sign in text]):
        return False
    return text == "0" or text[0] != "0"


def can_divide(p, start):
    """Whether some number that begins so, with few enough figures, is p at least, and has no divisor with it but 1."""
    if p == 0 or start == "0":
        return start == "1"
    low = int(start)
    high = low
    for _ in range(MOST_FIGURES - len(start) + 1):
        # Of some forty numbers that follow each other one has no divisor with p, which has few.
        for q in range(max(low, p), high + 1):
            if gcd(p, q) == 1:
                return True
        low *= 10
        high = 10 * high + 9
    return False


def wrong_at(kind, piece, end, ends):
    """Where a piece, or the sign behind it, is wrong, counted from 0; None if it is right, and ends as it may.

    The end is no sign where the text is over.
    """
    if end != "" and end in ends and kind.is_right(piece):
        return None
    for many in range(1, len(piece) + 1):
        if not kind.begins(piece[:many]):
            return many - 1
    return len(piece)


def read_line(reader, line, end):
    """Let a reader take a line; the first sign, from 1, with which it cannot go on, None without one."""
    sign = 1
    pieces = line.split(" ")
    for at, piece in enumerate(pieces):
        behind = " " if at + 1 < len(pieces) else end
        kind, ends = reader.expected(piece)
        wrong = wrong_at(kind, piece, behind, ends)
        if wrong is not None:
            return sign + wrong
        reader.put(piece, behind)
        sign += len(piece) + 1
    return None


def read_text(reader, text):
    """Let a reader take a text; the place of the first wrong sign, none of any text for no string, None without one."""
    if not isinstance(text, str):
        return (0, 0)
    lines = text.split("\n")
    for at, line in enumerate(lines):
        is_last = at + 1 == len(lines)
        if is_last and line == "" and reader.may_end():
            return None
        sign = read_line(reader, line, "" if is_last else "\n")
        if sign is not None:
            return (at + 1, sign)
    return None


def literal_text(mark, truth):
    """The text of a literal."""
    return mark if truth else "!" + mark


def truth_of_text(piece):
    """The truth of the literal that a piece is."""
    return not piece.startswith("!")


def literal_of_text(piece):
    """The literal that a piece is."""
    return (piece, True) if truth_of_text(piece) else (piece[1:], False)
