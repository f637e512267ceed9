"""States: for each mark a sign, set to No, to Yes, or open."""

from marksinturn.certainty import is_lost_code, is_won_code
from marksinturn.chancefree import need_no_chance
from marksinturn.errors import BadState
from marksinturn.literals import truth_bit

# Open, No, Yes: so states come in the order in which Python compares strings.
SIGNS = "-01"
OPEN = "-"
YES = "1"


def is_state(question, thing):
    """Whether an object is a state of the question."""
    if not isinstance(thing, str) or len(thing) != len(question.names):
        return False
    return all([sign in SIGNS for sign in thing])


def need_state(question, state):
    """Raise BadState for what is no state."""
    if not is_state(question, state):
        raise BadState(state)


def state_code(state):
    """The code of the literals that are for by what a state sets."""
    code = 0
    for place, sign in enumerate(state):
        if sign != OPEN:
            code |= truth_bit(place, sign == YES)
    return code


def told_state(question, code):
    """The state that sets what a code does."""
    return "".join([SIGNS[code >> (2 * place) & 3] for place in range(len(question.names))])


def all_states(question):
    """All states of a question, as Python compares strings."""
    found = [""]
    for _ in question.names:
        found = [state + sign for state in found for sign in SIGNS]
    return found


def is_lost_state(question, state):
    """Whether some wish has all its literals against, and each guard one that holds."""
    need_no_chance(question)
    need_state(question, state)
    return is_lost_code(question, state_code(state))


def is_won_state(question, state):
    """Whether some guard has all its literals against, or each wish one that holds."""
    need_no_chance(question)
    need_state(question, state)
    return is_won_code(question, state_code(state))
