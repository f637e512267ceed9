"""Loss papers judged row by row.

A loses row goes as a most row of what we are worth, a keeps row as a least
row: what is lost is what we are worth, below nought.
"""

from math import gcd

from marksinturn.errors import BadKind
from marksinturn.judging import RightRows
from marksinturn.numberrows import is_led_how, placed_literals, tell_code
from marksinturn.refusals import BadLosses
from marksinturn.shapes import is_count, is_list, is_tuple_of

# The kinds of rows that these go as.
GOES_AS = {"loses": "most", "keeps": "least"}
START_KINDS = {"fails": "most", "none": "most", "holds": "least", "broken": "least"}


def need_loss_kind(kind):
    """The kind that this one goes as; BadKind is raised for neither loses nor keeps."""
    if not isinstance(kind, str) or kind not in GOES_AS:
        raise BadKind(kind)
    return GOES_AS[kind]


def is_loss(thing):
    """Whether an object is a pair p of q, shortest, from nought on."""
    if not is_tuple_of(thing, 2) or not is_count(thing[0]) or not is_count(thing[1]):
        return False
    return thing[1] > 0 and gcd(thing[0], thing[1]) == 1


def are_indexes(thing):
    """Whether an object is an ascending list of unlike numbers."""
    if not is_list(thing) or not all([is_count(index) for index in thing]):
        return False
    return list(thing) == sorted(set(thing))


def is_loss_how(thing):
    """Whether an object is one of the ways in which loss rows are made."""
    if is_led_how(thing):
        return True
    if not is_list(thing) or not thing or not isinstance(thing[0], str):
        return False
    if len(thing) != 2:
        return len(thing) == 1 and thing[0] == "none"
    word, told = thing
    if word == "broken":
        return is_count(told)
    if word == "fails":
        return are_indexes(told) and len(told) > 0
    return word == "holds" and are_indexes(told)


def plain_loss_row(question, thing):
    """The loss row that an object is, of the kind that it goes as; None if it has not the form of one."""
    if not is_tuple_of(thing, 5):
        return None
    kind, place, lot, loss, how = thing
    literals = placed_literals(question, place, lot)
    if not isinstance(kind, str) or kind not in GOES_AS or literals is None:
        return None
    if not is_loss(loss) or not is_loss_how(how):
        return None
    return (GOES_AS[kind], place, literals, tuple(loss), tuple(how))


class RightLosses:
    """Loss rows that are right, laid as rows of what we are worth."""

    def __init__(self, question, prices):
        self.question = question
        self.prices = prices
        self.right = RightRows(question)

    def judge(self, thing):
        """Lay an object as the next row; the word of what is wrong with it, None if it is right."""
        row = plain_loss_row(self.question, thing)
        if row is None:
            return "form"
        kind, place, literals, loss, how = row
        code = tell_code(self.question, kind, literals)
        if how[0] in START_KINDS:
            wrong, lost = self.start_loss(kind, place, how, code)
            part = -lost * self.right.whole
        else:
            wrong, made, part = self.right.led_part(kind, place, how)
            if wrong is None and made != code:
                wrong = "literals"
        if wrong is None and loss[0] * self.right.whole != -part * loss[1]:
            wrong = "loss"
        if wrong is None:
            self.right.lay(row, code, part)
        return wrong

    def start_loss(self, kind, place, how, code):
        """What is wrong with a start row, None if nothing is, and what it says is lost."""
        named = named_clauses(how)
        many = len(self.question.guard_codes if how[0] == "broken" else self.question.wish_codes)
        if kind != START_KINDS[how[0]] or any([index >= many for index in named]):
            return "kind", 0
        if place != self.right.length:
            return "place", 0
        if not is_start_of(self.question, how[0], named, code):
            return "literals", 0
        return None, sum([self.prices[index] for index in named]) if how[0] in ("fails", "holds") else 0


def named_clauses(how):
    """The indexes of the wishes that the making of a start row names, or of its guard."""
    if how[0] == "none":
        return []
    return [how[1]] if how[0] == "broken" else list(how[1])


def is_start_of(question, word, named, code):
    """Whether a start row of this word, and of clauses that it names, may have the literals of a code."""
    if word == "fails":
        if any([question.wish_turns[index] & ~code for index in named]):
            return False
        return all([guard & code for guard in question.guard_codes])
    if word == "holds":
        return all([wish & code for index, wish in enumerate(question.wish_codes) if index not in named])
    if word == "broken":
        return not question.guard_turns[named[0]] & ~code
    return code == 0


def judged_losses(question, prices, thing):
    """The pair of right rows and the fault of the first thing that is none, None for a loss paper."""
    found = RightLosses(question, prices)
    if not is_list(thing):
        return found.right, (0, "form")
    for index, row in enumerate(thing):
        wrong = found.judge(row)
        if wrong is not None:
            return found.right, (index, wrong)
    return found.right, None


def need_losses(question, prices, losses):
    """The right rows of a loss paper; BadLosses is raised for what is none."""
    right, fault = judged_losses(question, prices, losses)
    if fault is not None:
        raise BadLosses(fault[0])
    return right
