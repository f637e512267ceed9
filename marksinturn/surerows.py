"""Sure rows: what another hand may set, and a policy's hand wins for sure, line by line."""

from marksinturn.chancefree import need_no_chance
from marksinturn.freejudging import joined_place
from marksinturn.functions import need_policy, need_side, other_side
from marksinturn.judging import without_mark
from marksinturn.literals import are_in_order, code_of, literal_list, literals_of
from marksinturn.numberrows import is_led_how
from marksinturn.shapes import is_list, is_tuple_of
from marksinturn.suredeciding import SureDeciding
from marksinturn.tables import marks_by


def need_asked_side(question, hand, policy):
    """Raise what is due of a question without chance, a hand and a policy of it."""
    need_no_chance(question)
    need_side(hand)
    need_policy(question, hand, policy)


def is_sure_how(thing):
    """Whether an object is one of the ways in which sure rows are made."""
    if is_tuple_of(thing, 1):
        return isinstance(thing[0], str) and thing[0] == "sure"
    return is_tuple_of(thing, 3) and is_led_how(thing)


def plain_sure_row(question, hand, thing):
    """The sure row that an object is, as such are told; None if it has not the form of one."""
    if not is_tuple_of(thing, 2) or not is_sure_how(thing[1]):
        return None
    literals = literal_list(question.places, thing[0])
    if literals is None or not are_in_order(question.places, literals):
        return None
    other = other_side(hand)
    if any([question.hands[question.places[mark]] != other for mark, _ in literals]):
        return None
    return (literals, tuple(thing[1]))


def sure_fault(question, hand, policy, thing):
    """None for a list of right sure rows, else the index of the first thing that is wrong, and why it is."""
    need_asked_side(question, hand, policy)
    if not is_list(thing):
        return (0, "form")
    deciding = SureDeciding(question, hand, policy)
    codes = []
    for index, row in enumerate(thing):
        plain = plain_sure_row(question, hand, row)
        if plain is None:
            return (index, "form")
        literals, how = plain
        code = code_of(question.places, literals)
        wrong = sure_wrong(deciding, codes, code, how)
        if wrong is not None:
            return (index, wrong)
        codes.append(code)
    return None


def sure_wrong(deciding, codes, code, how):
    """What is wrong with a row of this code behind rows of those; None if nothing is."""
    if how[0] == "sure":
        return None if deciding.is_sure(code) else "sure"
    if any([index >= len(codes) for index in how[1:]]):
        return "how"
    no, yes = codes[how[1]], codes[how[2]]
    place = joined_place(no, yes)
    if place is None:
        return "how"
    return None if code == without_mark(no | yes, place) else "literals"


def sure_rows(question, hand, policy):
    """Sure rows of which the last one has no literals; None if the policy does not win every play."""
    need_asked_side(question, hand, policy)
    finding = SureFinding(question, hand, policy)
    if finding.row_at(0, 0) is None:
        return None
    return [(literals_of(question.names, code), how) for code, how in finding.rows]


class SureFinding:
    """The sure rows that come of going through what the other hand may set."""

    def __init__(self, question, hand, policy):
        self.deciding = SureDeciding(question, hand, policy)
        self.others = marks_by(question, other_side(hand))
        self.rows = []

    def lay(self, code, how):
        """The index of a row that is laid behind the others."""
        self.rows.append((code, how))
        return len(self.rows) - 1

    def row_at(self, many, code):
        """The index of a row within a code of the first so many marks of the other hand; None without one."""
        if self.deciding.is_sure(code):
            return self.lay(self.fewest(many, code), ("sure",))
        if many == len(self.others):
            return None
        place = self.others[many]
        no = self.row_at(many + 1, code | 1 << (2 * place))
        if no is None or not self.rows[no][0] >> (2 * place) & 3:
            return no
        yes = self.row_at(many + 1, code | 2 << (2 * place))
        if yes is None or not self.rows[yes][0] >> (2 * place) & 3:
            return yes
        return self.lay(without_mark(self.rows[no][0] | self.rows[yes][0], place), ("join", no, yes))

    def fewest(self, many, code):
        """A code within a sure one that is sure, too, and not so without any of its literals.

        The last literals are tried first, so that rows that are joined soon
        often have not the mark, and say as much by themselves.
        """
        for place in self.others[:many][::-1]:
            less = without_mark(code, place)
            if self.deciding.is_sure(less):
                code = less
        return code
