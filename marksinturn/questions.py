"""Questions: marks that hands set in their order, wishes and guards."""

from marksinturn.errors import BadGuards, BadMarks, BadNames, BadQuestion, BadWishes
from marksinturn.literals import code_of, in_marks_order, literal_list, turned_code
from marksinturn.shapes import is_integer, is_list, is_name, is_tuple_of


def is_hand(thing):
    """Whether an object is a hand: we, they, or the odds of chance."""
    if isinstance(thing, str):
        return thing in ("we", "they")
    if not is_tuple_of(thing, 2):
        return False
    p, q = thing
    return is_integer(p) and is_integer(q) and 0 < p < q


def first_wrong_mark(marks):
    """The index of the first thing that is no new pair of a name and a hand; None without one."""
    if not is_list(marks):
        return 0
    seen = set()
    for index, thing in enumerate(marks):
        if not is_tuple_of(thing, 2) or not is_name(thing[0]) or not is_hand(thing[1]):
            return index
        if thing[0] in seen:
            return index
        seen.add(thing[0])
    return None


def first_wrong_clause(places, clauses):
    """The index of the first thing that is no clause of the marks; None without one."""
    if not is_list(clauses):
        return 0
    for index, thing in enumerate(clauses):
        if literal_list(places, thing) is None:
            return index
    return None


def ordered_clauses(places, clauses):
    """Clauses with their literals in the order of the marks."""
    return [in_marks_order(places, literal_list(places, clause)) for clause in clauses]


class Question:
    """Marks with their hands, in the order in which they are set, wishes and guards.

    Its attributes, which no one changes, hold it ready for those who reckon.
    """

    def __init__(self, marks, wishes, guards):
        wrong = first_wrong_mark(marks)
        if wrong is not None:
            raise BadMarks(wrong)
        self.names = [mark[0] for mark in marks]
        self.hands = [mark[1] if isinstance(mark[1], str) else tuple(mark[1]) for mark in marks]
        self.places = {name: place for place, name in enumerate(self.names)}
        wrong = first_wrong_clause(self.places, wishes)
        if wrong is not None:
            raise BadWishes(wrong)
        wrong = first_wrong_clause(self.places, guards)
        if wrong is not None:
            raise BadGuards(wrong)
        self.wish_lists = ordered_clauses(self.places, wishes)
        self.guard_lists = ordered_clauses(self.places, guards)
        self.wish_codes = [code_of(self.places, clause) for clause in self.wish_lists]
        self.wish_turns = [turned_code(self.places, clause) for clause in self.wish_lists]
        self.guard_codes = [code_of(self.places, clause) for clause in self.guard_lists]
        self.guard_turns = [turned_code(self.places, clause) for clause in self.guard_lists]

    def marks(self):
        """The pairs of a name and a hand, in the order."""
        return list(zip(self.names, self.hands))

    def wishes(self):
        """The clauses that we have to keep."""
        return [list(clause) for clause in self.wish_lists]

    def guards(self):
        """The clauses that they have to keep."""
        return [list(clause) for clause in self.guard_lists]

    def __eq__(self, other):
        return (
            isinstance(other, Question)
            and self.names == other.names
            and self.hands == other.hands
            and self.wish_lists == other.wish_lists
            and self.guard_lists == other.guard_lists
        )


def need_question(question):
    """Raise BadQuestion for what is no Question."""
    if not isinstance(question, Question):
        raise BadQuestion(question)


def first_wrong_name(names, many):
    """The index that BadNames keeps for names of so many marks; None if they are right."""
    if not is_list(names):
        return 0
    seen = set()
    for index, name in enumerate(names):
        if not is_name(name) or name in seen:
            return index
        seen.add(name)
    return None if len(names) == many else many


def renamed(question, names):
    """The question with these names for its marks, in order."""
    need_question(question)
    wrong = first_wrong_name(names, len(question.names))
    if wrong is not None:
        raise BadNames(wrong)
    marks = list(zip(names, question.hands))
    wishes = renamed_clauses(question, names, question.wish_lists)
    guards = renamed_clauses(question, names, question.guard_lists)
    return Question(marks, wishes, guards)


def renamed_clauses(question, names, clauses):
    """The clauses with the new names of their marks."""
    return [[(names[question.places[mark]], truth) for mark, truth in clause] for clause in clauses]
