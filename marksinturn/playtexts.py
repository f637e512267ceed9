"""The texts of positions and of sums: written, judged, read."""

from marksinturn.positions import need_position
from marksinturn.questions import Question
from marksinturn.refusals import BadPlayText, BadSumForm, BadSumsText
from marksinturn.shapes import is_list
from marksinturn.sumcodes import is_sum
from marksinturn.textpieces import NamePiece, WordPiece, literal_text, read_text, truth_of_text

SUM_WORDS = ("odd", "even")


class PlayReader:
    """The truths that were read, of marks that have these names."""

    def __init__(self, names):
        self.names = names
        self.position = []
        self.is_over = False

    def may_end(self):
        """Whether the text may end ahead of a line."""
        return self.is_over

    def expected(self, piece):
        """What kind of piece can come, and what may end this one."""
        if self.is_over:
            return WordPiece(()), ""
        words = [literal_text(name, truth) for name in self.next_name() for truth in (False, True)]
        if not self.position:
            words.append("")
        is_last = piece == "" or len(self.position) + 1 == len(self.names)
        return WordPiece(words), "\n" if is_last else " \n"

    def next_name(self):
        """The name of the next mark, in a list; none at the end."""
        return self.names[len(self.position):len(self.position) + 1]

    def put(self, piece, end):
        """Put a piece that is right to what there is."""
        if piece != "":
            self.position.append(truth_of_text(piece))
        self.is_over = end == "\n"


class SumsReader:
    """The sums that were read, and what there is of the next one."""

    def __init__(self):
        self.sums = []
        self.start_sum()

    def start_sum(self):
        """Be ahead of a line."""
        self.part = "truth"
        self.is_odd = False
        self.names = []

    def may_end(self):
        """Whether the text may end ahead of a line."""
        return True

    def expected(self, piece):
        """What kind of piece can come, and what may end this one."""
        if self.part == "truth":
            return WordPiece(SUM_WORDS), " \n"
        return NamePiece(self.names, False, ()), " \n"

    def put(self, piece, end):
        """Put a piece that is right to what there is."""
        if self.part == "truth":
            self.is_odd = piece == "odd"
            self.part = "name"
        else:
            self.names.append(piece)
        if end == "\n":
            self.sums.append((self.names, self.is_odd))
            self.start_sum()


def need_names(marks):
    """The names of a question's marks; BadMarks is raised for the first thing that is none."""
    return Question(marks, [], []).names


def play_text(marks, position):
    """The text of a position: a line of the literals of the first marks."""
    question = Question(marks, [], [])
    need_position(question, position)
    return " ".join([literal_text(name, truth) for name, truth in zip(question.names, position)]) + "\n"


def read_play(marks, text):
    """The position of a text."""
    reader = PlayReader(need_names(marks))
    fault = read_text(reader, text)
    if fault is not None:
        line, sign = fault
        raise BadPlayText(line, sign)
    return reader.position


def play_fault(marks, text):
    """None for a text of a position, nothing of any text for no string, else the place of the first wrong sign."""
    return read_text(PlayReader(need_names(marks)), text)


def sums_text(sums):
    """The text of sums: a line for each."""
    if not is_list(sums):
        raise BadSumForm(0)
    for index, thing in enumerate(sums):
        if not is_sum(thing):
            raise BadSumForm(index)
    return "".join([" ".join(["odd" if truth else "even", *names]) + "\n" for names, truth in sums])


def read_sums(text):
    """The sums of a text."""
    reader = SumsReader()
    fault = read_text(reader, text)
    if fault is not None:
        line, sign = fault
        raise BadSumsText(line, sign)
    return reader.sums


def sums_fault(text):
    """None for a text of sums, nothing of any text for no string, else the place of the first wrong sign."""
    return read_text(SumsReader(), text)
