"""Operations that make one truth of some, and the clauses that they keep."""

from marksinturn.errors import BadClause, BadOperation, BadPlain
from marksinturn.literals import name_literals
from marksinturn.questions import need_question

OPERATIONS = ("both", "either", "middle")


def is_operation(thing):
    """Whether an object is the word of an operation."""
    return isinstance(thing, str) and thing in OPERATIONS


def need_clause(operation, clause):
    """The literals of a clause; BadOperation, BadClause are raised for what is none."""
    if not is_operation(operation):
        raise BadOperation(operation)
    literals = name_literals(clause)
    if literals is None:
        raise BadClause(clause)
    return literals


def need_plain(question):
    """Raise BadQuestion for no question, BadPlain for one with chance or guards."""
    need_question(question)
    if question.guard_lists or any([not isinstance(hand, str) for hand in question.hands]):
        raise BadPlain(question)


def need_kept(question, operation):
    """Raise what is due of a plain question and of an operation that keeps all its wishes."""
    need_plain(question)
    if not is_operation(operation) or not all([does_keep(operation, wish) for wish in question.wish_lists]):
        raise BadOperation(operation)


def turned_places(operation, literals):
    """The places of the literals of which an operation that keeps their clause admits so few."""
    if operation == "middle":
        return list(range(len(literals)))
    return [place for place, (_, truth) in enumerate(literals) if truth == (operation == "both")]


def does_keep(operation, literals):
    """Whether an operation keeps the clause of literals."""
    return len(turned_places(operation, literals)) < needed_lists(operation)


def needed_lists(operation):
    """How many truths an operation makes one of."""
    return 3 if operation == "middle" else 2


def keeps(operation, clause):
    """Whether an operation keeps a clause."""
    return does_keep(operation, need_clause(operation, clause))


def unkept(operation, clause):
    """Truths by which a clause holds, of which an operation makes some by which it does not; None if it is kept."""
    literals = need_clause(operation, clause)
    if does_keep(operation, literals):
        return None
    places = turned_places(operation, literals)[:needed_lists(operation)]
    # Each list lets just one literal hold, each another one; so none is left of them together.
    return [[truth == (at == place) for at, (_, truth) in enumerate(literals)] for place in places]


def classes_of(question):
    """The operations that keep all wishes of a plain question."""
    need_plain(question)
    return [
        operation
        for operation in OPERATIONS
        if all([does_keep(operation, wish) for wish in question.wish_lists])
    ]
