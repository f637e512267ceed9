"""What rows show to be wrong in a play, and right at a position."""

from marksinturn.bestrows import told_part
from marksinturn.judging import need_paper
from marksinturn.numbersof import fraction_of
from marksinturn.positions import need_play, need_position
from marksinturn.questions import need_question


def blunders(question, paper, play):
    """The marks that rows show to be set wrong in a play, each with the numbers ahead and behind."""
    need_question(question)
    right = need_paper(question, paper)
    need_play(question, play)
    found = []
    for place, hand in enumerate(question.hands):
        if not isinstance(hand, str):
            continue
        least, most = ("least", "most") if hand == "we" else ("most", "least")
        before = told_part(right, least, play[:place])
        behind = told_part(right, most, play[:place + 1])
        is_worse = behind < before if hand == "we" else behind > before
        if is_worse:
            found.append((place, fraction_of(before, right.whole), fraction_of(behind, right.whole)))
    return found


def hints(question, paper, position):
    """The truths of the next mark by which rows show that nothing is lost."""
    need_question(question)
    right = need_paper(question, paper)
    need_position(question, position)
    place = len(position)
    if place == right.length or not isinstance(question.hands[place], str):
        return []
    return [truth for truth in (False, True) if is_safe(right, position, truth)]


def is_safe(right, position, truth):
    """Whether rows show that whoever sets the next mark loses nothing by a truth."""
    behind = list(position) + [truth]
    if right.question.hands[len(position)] == "we":
        return told_part(right, "least", behind) >= told_part(right, "most", position)
    return told_part(right, "most", behind) <= told_part(right, "least", position)
