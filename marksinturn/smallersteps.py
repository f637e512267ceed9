"""Steps that make a question smaller, and keep its value at the beginning."""

from marksinturn.questions import need_question
from marksinturn.refusals import BadStep
from marksinturn.shapes import is_integer, is_list
from marksinturn.stepping import all_steps, clauses_of_question, done


def steps_of(question):
    """All steps that can be done, in their order."""
    need_question(question)
    return all_steps(clauses_of_question(question))


def plain_step(clauses, thing):
    """The step that can be done which an object is; None if it is none."""
    if not is_list(thing) or not all([isinstance(one, str) or is_integer(one) for one in thing]):
        return None
    step = tuple(thing)
    return step if step in all_steps(clauses) else None


def stepped(question, step):
    """The question behind a step."""
    need_question(question)
    clauses = clauses_of_question(question)
    plain = plain_step(clauses, step)
    if plain is None:
        raise BadStep(step)
    return done(clauses, plain).as_question()


def smaller(question):
    """The pair of the steps, each the first one that can be done, till there is none, and the question behind them."""
    need_question(question)
    clauses = clauses_of_question(question)
    steps = []
    left = all_steps(clauses)
    while left:
        steps.append(left[0])
        clauses = done(clauses, left[0])
        left = all_steps(clauses)
    return (steps, clauses.as_question())


def way_of(question, thing):
    """The pairs of the clauses ahead of each step of a list and the step, and the index of the first that is none.

    None is told of the latter if each step can be done behind those ahead.
    """
    way = []
    if not is_list(thing):
        return way, 0
    clauses = clauses_of_question(question)
    for index, one in enumerate(thing):
        step = plain_step(clauses, one)
        if step is None:
            return way, index
        way.append((clauses, step))
        clauses = done(clauses, step)
    return way, None


def steps_fault(question, thing):
    """None for a list of steps that can be done one behind the other, else the index of the first that cannot."""
    need_question(question)
    _, fault = way_of(question, thing)
    return fault
