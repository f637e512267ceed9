"""The texts of policies: written, judged, read."""

from marksinturn.literals import name_literals
from marksinturn.refusals import BadPolicyForm, BadPolicyText
from marksinturn.shapes import is_list, is_name, is_tuple_of
from marksinturn.textpieces import NamePiece, WordPiece, literal_of_text, literal_text, read_text

TRUTHS = ("yes", "no")


class PolicyReader:
    """The functions that were read, and what there is of the next pair."""

    def __init__(self):
        self.policy = {}
        # The mark of the line ahead, if it may have another one.
        self.going_on = ()
        self.start_pair()

    def start_pair(self):
        """Be ahead of a line."""
        self.part = "mark"
        self.mark = ""
        self.is_new = False
        self.literals = []
        self.taken = {}
        self.tells = False

    def may_end(self):
        """Whether the text may end ahead of a line."""
        return True

    def expected(self, piece):
        """What kind of piece can come, and what may end this one."""
        if self.part == "mark":
            return NamePiece(self.policy, False, self.going_on), " "
        if self.part == "colon":
            # What has a pair is no empty function any more.
            return WordPiece((":",)), " \n" if self.is_new else " "
        if self.part == "truth":
            return WordPiece(TRUTHS), " \n"
        return NamePiece(self.taken, True, ()), " \n"

    def put(self, piece, end):
        """Put a piece that is right to what there is."""
        if self.part == "mark":
            self.mark = piece
            self.is_new = piece not in self.policy
            if self.is_new:
                self.policy[piece] = []
            self.part = "colon"
        elif self.part == "colon":
            self.part = "truth"
            if end == "\n":
                self.going_on = ()
                self.start_pair()
        else:
            self.put_in_pair(piece)
            if end == "\n":
                self.policy[self.mark].append((self.literals, self.tells))
                self.going_on = (self.mark,)
                self.start_pair()

    def put_in_pair(self, piece):
        """Put the truth that a pair tells, or a literal, to it."""
        if self.part == "truth":
            self.tells = piece == "yes"
            self.part = "literal"
        else:
            mark, truth = literal_of_text(piece)
            self.taken[mark] = True
            self.literals.append((mark, truth))


def is_policy_form(thing):
    """Whether an object is a dict from names to functions, of whatever marks."""
    if not isinstance(thing, dict) or not all([is_name(name) for name in thing]):
        return False
    return all([is_function_form(thing[name]) for name in thing])


def is_function_form(thing):
    """Whether an object is a list of pairs of literals and a truth, of whatever marks."""
    if not is_list(thing) or not all([is_tuple_of(pair, 2) for pair in thing]):
        return False
    return all([name_literals(literals) is not None and isinstance(tells, bool) for literals, tells in thing])


def policy_text(policy):
    """The text of a policy: a line for each pair, or for an empty function."""
    if not is_policy_form(policy):
        raise BadPolicyForm(policy)
    lines = []
    for mark, pairs in policy.items():
        if not pairs:
            lines.append(mark + " :\n")
        lines.extend([pair_line(mark, literals, tells) for literals, tells in pairs])
    return "".join(lines)


def pair_line(mark, literals, tells):
    """The line of a pair of a mark's function."""
    pieces = [mark, ":", "yes" if tells else "no"]
    pieces.extend([literal_text(other, truth) for other, truth in literals])
    return " ".join(pieces) + "\n"


def read_policy_text(text):
    """The policy of a text."""
    reader = PolicyReader()
    fault = read_text(reader, text)
    if fault is not None:
        line, sign = fault
        raise BadPolicyText(line, sign)
    return reader.policy


def policy_fault(text):
    """None for a text of a policy, nothing of any text for no string, else the place of the first wrong sign."""
    return read_text(PolicyReader(), text)
