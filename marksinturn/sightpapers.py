"""Papers that show, vector by vector, how early each of ours has to be set."""

from marksinturn.earliness import need_number, parted_vectors
from marksinturn.endrows import does_end, ending_paper
from marksinturn.ordervalues import at_or_above, greatest_vectors, least_vectors
from marksinturn.shapes import is_list, is_tuple_of
from marksinturn.tables import marks_by
from marksinturn.vectors import first_wrong_number, moved


def sight_paper(question, number):
    """The pair of the least vectors that are enough and the greatest that are too early, each with a paper."""
    need_number(question, number)
    least, greatest = parted_vectors(question, number)
    return (with_papers(question, number, least), with_papers(question, number, greatest))


def with_papers(question, number, vectors):
    """The pairs of vectors and papers that show what they are."""
    return [(vector, ending_paper(moved(question, vector), number)) for vector in vectors]


def sight_fault(question, number, thing):
    """None for such a pair, else what is wrong with it first."""
    need_number(question, number)
    ours = len(marks_by(question, "we"))
    others = len(question.names) - ours
    if not is_tuple_of(thing, 2) or not all([are_vector_pairs(pairs, ours, others) for pairs in thing]):
        return ("form",)
    least, most = thing
    for kind, pairs in (("least", least), ("most", most)):
        for index, (vector, paper) in enumerate(pairs):
            if not does_end(moved(question, vector), kind, number, paper):
                return (kind, index)
    lows = [list(vector) for vector, _ in least]
    highs = [list(vector) for vector, _ in most]
    gap = first_between(lows, highs, ours, others)
    if gap is not None:
        return ("gap", gap)
    if lows != least_vectors(lows) or highs != greatest_vectors(highs):
        return ("order",)
    return None


def are_vector_pairs(thing, ours, others):
    """Whether an object is a list of pairs of a vector and something."""
    if not is_list(thing):
        return False
    return all([is_tuple_of(pair, 2) and first_wrong_number(pair[0], ours, others) is None for pair in thing])


def first_between(lows, highs, ours, others):
    """The first vector that is at or above none of the lows, and at or below none of the highs; None without one."""
    return vector_between([], lows, highs, ours, others)


def vector_between(start, lows, highs, ours, others):
    """The first such vector that begins so; None without one."""
    if len(start) == ours:
        is_told = any([at_or_above(start, low) for low in lows]) or any([at_or_above(high, start) for high in highs])
        return None if is_told else start
    for number in range(others + 1):
        found = vector_between(start + [number], lows, highs, ours, others)
        if found is not None:
            return found
    return None
