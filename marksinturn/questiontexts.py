"""The texts of questions: written, judged, read, and led to an end."""

from marksinturn.errors import BadQuestionText
from marksinturn.questions import Question, need_question
from marksinturn.textends import text_end
from marksinturn.textreading import read_signs


def question_text(question):
    """The text of a question: a line for each mark, each wish, each guard."""
    need_question(question)
    lines = [mark_line(name, hand) for name, hand in zip(question.names, question.hands)]
    lines.extend([clause_line("wish", clause) for clause in question.wish_lists])
    lines.extend([clause_line("guard", clause) for clause in question.guard_lists])
    return "".join([line + "\n" for line in lines])


def mark_line(name, hand):
    """The line of a mark."""
    if isinstance(hand, str):
        return hand + " " + name
    p, q = hand
    return "chance " + str(p) + " " + str(q) + " " + name


def clause_line(word, clause):
    """The line of a clause."""
    return word + "".join([" " + (name if truth else "!" + name) for name, truth in clause])


def question_fault(text):
    """None for the text of a question, (0, 0) for no string, else the place of the first wrong sign."""
    if not isinstance(text, str):
        return (0, 0)
    _, fault = read_signs(text)
    return fault


def read_question(text):
    """The question of a text."""
    if not isinstance(text, str):
        raise BadQuestionText(0, 0)
    reader, fault = read_signs(text)
    if fault is not None:
        line, sign = fault
        raise BadQuestionText(line, sign)
    return Question(reader.marks, reader.wishes, reader.guards)


def whole_text(text):
    """The text of a question that begins with a string; None if there is none, or for no string."""
    if not isinstance(text, str):
        return None
    reader, fault = read_signs(text)
    if fault is not None and not is_behind(text, fault):
        return None
    return text + text_end(reader)


def is_behind(text, fault):
    """Whether the place of a fault is the one behind the last sign of a text."""
    line, sign = fault
    lines = text.split("\n")
    return line == len(lines) and sign == len(lines[-1]) + 1
