"""Questions without chance, of which some points speak alone."""

from marksinturn.errors import HasChance
from marksinturn.questions import need_question


def need_no_chance(question):
    """Raise BadQuestion for no question, HasChance for one in which chance sets a mark."""
    need_question(question)
    if any([not isinstance(hand, str) for hand in question.hands]):
        raise HasChance(question)
