"""Papers judged row by row: what is wrong with a row, or what is reckoned of right ones."""

from marksinturn.certainty import is_lost_code, is_won_code
from marksinturn.errors import BadPaper
from marksinturn.literals import literals_of
from marksinturn.numberrows import plain_row, tell_code
from marksinturn.numbersof import better_of, fraction_of, whole_of
from marksinturn.shapes import is_list

# What kind of row each word of a start row makes.
START_KINDS = {"lost": "most", "won": "least", "any": "most", "none": "least"}


class RightRows:
    """Rows of a question that are right, as they are told, with their codes and their parts of the whole.

    A row's code is of what has to be for where it tells, whatever its kind;
    so what the ways of making ask of literals is the same for both kinds.
    """

    def __init__(self, question):
        self.question = question
        self.length = len(question.names)
        self.whole = whole_of(question)
        self.rows = []
        self.codes = []
        self.parts = []

    def judge(self, thing):
        """Lay an object as the next row; the word of what is wrong with it, None if it is right."""
        row = plain_row(self.question, thing)
        if row is None:
            return "form"
        kind, place, literals, number, how = row
        code = tell_code(self.question, kind, literals)
        if len(how) == 1:
            wrong, part = self.start_part(kind, place, how[0], code)
        else:
            wrong, made, part = self.led_part(kind, place, how)
            if wrong is None and made != code:
                wrong = "literals"
        if wrong is None and number[0] * self.whole != part * number[1]:
            wrong = "number"
        if wrong is None:
            self.lay(row, code, part)
        return wrong

    def lay(self, row, code, part):
        """Put a row that is right behind the others."""
        self.rows.append(row)
        self.codes.append(code)
        self.parts.append(part)

    def start_part(self, kind, place, word, code):
        """What is wrong with a start row, None if nothing is, and its parts."""
        if kind != START_KINDS[word]:
            return "kind", 0
        if place != self.length:
            return "place", 0
        if not is_start_code(self.question, word, code):
            return "literals", 0
        return None, self.whole if word in ("won", "any") else 0

    def led_part(self, kind, place, how):
        """What is wrong with a drop or a join, None if nothing is, its code and its parts."""
        named = how[1:]
        for index in named:
            if index >= len(self.rows) or self.rows[index][0] != kind:
                return "kind", 0, 0
        if place >= self.length or any([self.rows[index][1] <= place for index in named]):
            return "place", 0, 0
        hand = self.question.hands[place]
        if (how[0] == "drop") != (hand == dropping_hand(kind)):
            return "hand", 0, 0
        if any([self.codes[index] >> (2 * place + 2) for index in named]):
            return "literals", 0, 0
        if how[0] == "drop":
            index = named[0]
            return None, without_mark(self.codes[index], place), self.parts[index]
        code = joined_code(self.codes[named[0]], self.codes[named[1]], place)
        if code is None:
            return "literals", 0, 0
        return None, code, better_of(hand, self.parts[named[0]], self.parts[named[1]])


def dropping_hand(kind):
    """The hand whose marks are dropped: what is best for it is done in what rows of the kind say."""
    return "they" if kind == "most" else "we"


def is_start_code(question, word, code):
    """Whether a start row of this word may have the literals of a code."""
    if word == "lost":
        return is_lost_code(question, code)
    if word == "won":
        return is_won_code(question, code)
    return code == 0


def without_mark(code, place):
    """The code without the mark at a place."""
    return code & ~(3 << (2 * place))


def joined_code(no, yes, place):
    """The code of both without the mark at a place; None where they can not be joined there."""
    bit = 1 << (2 * place)
    if no & 2 * bit or yes & bit or not (no | yes) & 3 * bit:
        return None
    code = without_mark(no | yes, place)
    # A bit for each mark: the lower one of its two.
    lower = (bit - 1) // 3
    if code & code >> 1 & lower:
        return None
    return code


def judged(question, thing):
    """The pair of right rows and the fault of the first thing that is none, None for a paper."""
    right = RightRows(question)
    if not is_list(thing):
        return right, (0, "form")
    for index, row in enumerate(thing):
        wrong = right.judge(row)
        if wrong is not None:
            return right, (index, wrong)
    return right, None


def need_paper(question, paper):
    """The right rows of a paper; BadPaper is raised for what is none."""
    right, fault = judged(question, paper)
    if fault is not None:
        raise BadPaper(fault[0])
    return right


def told_row(question, kind, place, code, part, how):
    """The row with these things, as it is told."""
    literals = literals_of(question.names, code)
    if kind == "most":
        literals = [(mark, not truth) for mark, truth in literals]
    return (kind, place, literals, fraction_of(part, whole_of(question)), tuple(how))
