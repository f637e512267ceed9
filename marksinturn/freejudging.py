"""Free papers judged row by row."""

from marksinturn.certainty import is_lost_code, is_won_code
from marksinturn.errors import BadFree
from marksinturn.judging import without_mark
from marksinturn.literals import are_in_order, code_of, literal_list, literals_of, turned_code
from marksinturn.numberrows import is_led_how
from marksinturn.shapes import is_list, is_tuple_of


def is_free_how(thing):
    """Whether an object is one of the ways in which free rows are made."""
    if is_tuple_of(thing, 1):
        return isinstance(thing[0], str) and thing[0] == "start"
    return is_led_how(thing)


def plain_free_row(question, thing):
    """The free row that an object is, as free rows are told; None if it has not the form of one."""
    if not is_tuple_of(thing, 3):
        return None
    kind, lot, how = thing
    if not isinstance(kind, str) or kind not in ("lost", "won"):
        return None
    literals = literal_list(question.places, lot)
    if literals is None or not are_in_order(question.places, literals):
        return None
    if not is_free_how(how):
        return None
    return (kind, literals, tuple(how))


class RightFreeRows:
    """Free rows of one kind that are right, as they are told, with their codes.

    As with rows that have places, a code is of what has to be for where the
    row speaks: of a lost row the literals with their other truths.
    """

    def __init__(self, question):
        self.question = question
        self.rows = []
        self.codes = []

    def judge(self, thing):
        """Lay an object as the next row; the word of what is wrong with it, None if it is right."""
        row = plain_free_row(self.question, thing)
        if row is None:
            return "form"
        kind, literals, how = row
        if self.rows and self.rows[0][0] != kind:
            return "kind"
        code = free_code(self.question, kind, literals)
        if how[0] == "start":
            wrong = None if is_start_free(self.question, kind, code) else "literals"
        else:
            wrong = self.led_wrong(kind, how, code)
        if wrong is None:
            self.rows.append(row)
            self.codes.append(code)
        return wrong

    def led_wrong(self, kind, how, code):
        """What is wrong with a drop or a join that has a code; None if nothing is."""
        if any([index >= len(self.rows) for index in how[1:]]):
            return "how"
        named = [self.codes[index] for index in how[1:]]
        place = dropped_place(named[0]) if how[0] == "drop" else joined_place(named[0], named[1])
        if place is None:
            return "how"
        dropping = "they" if kind == "lost" else "we"
        if (how[0] == "drop") != (self.question.hands[place] == dropping):
            return "hand"
        both = named[0] | named[-1]
        return None if code == without_mark(both, place) else "literals"


def free_code(question, kind, literals):
    """The code of what has to be for where a free row with these literals speaks."""
    if kind == "lost":
        return turned_code(question.places, literals)
    return code_of(question.places, literals)


def is_start_free(question, kind, code):
    """Whether the literals of a code are lost for certain, won for certain."""
    if kind == "lost":
        return is_lost_code(question, code)
    return is_won_code(question, code)


def dropped_place(code):
    """The place of the last mark in a code; None if there is none."""
    if code == 0:
        return None
    return (code.bit_length() - 1) // 2


def joined_place(no, yes):
    """The place of the one mark that two codes have unlike, with No and with Yes; None if there is none such."""
    noes_then_yeses = no & yes >> 1
    yeses_then_noes = no >> 1 & yes
    # Of both only the lower one of a mark's two bits is meant.
    width = (no | yes).bit_length() // 2 + 1
    lower = ((1 << (2 * width)) - 1) // 3
    right = noes_then_yeses & lower
    wrong = yeses_then_noes & lower
    if wrong or right == 0 or right & (right - 1):
        return None
    return (right.bit_length() - 1) // 2


def judged_free(question, thing):
    """The pair of right free rows and the fault of the first thing that is none, None for a free paper."""
    right = RightFreeRows(question)
    if not is_list(thing) or not thing:
        return right, (0, "form")
    for index, row in enumerate(thing):
        wrong = right.judge(row)
        if wrong is not None:
            return right, (index, wrong)
    return right, None


def need_free(question, free):
    """The right rows of a free paper; BadFree is raised for what is none."""
    right, fault = judged_free(question, free)
    if fault is not None:
        raise BadFree(fault[0])
    return right


def told_free_row(question, kind, code, how):
    """The free row with these things, as it is told."""
    literals = literals_of(question.names, code)
    if kind == "lost":
        literals = [(mark, not truth) for mark, truth in literals]
    return (kind, literals, tuple(how))
