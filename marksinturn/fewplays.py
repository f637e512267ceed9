"""Few plays that tell all: for each few row of theirs a play that is won."""

from marksinturn.certainty import is_won_code
from marksinturn.copysteps import edges_of, forced_steps, ways_from
from marksinturn.fewcopies import FewCopies
from marksinturn.literals import position_code
from marksinturn.lostpapers import lost_ways
from marksinturn.operations import need_kept
from marksinturn.positions import are_all_truths
from marksinturn.shapes import is_tuple_of


def few_rows(question, operation):
    """The few lists of truths for their marks that tell all."""
    need_kept(question, operation)
    return [list(row) for row in FewCopies(question, operation).rows]


def few_paper(question, operation):
    """A list of won plays, one for each few row, that do not part too early; None if there is none."""
    need_kept(question, operation)
    few = FewCopies(question, operation)
    if operation == "middle":
        truths = None if lost_ways(few) is not None else chosen_truths(few)
    else:
        forced, steps = forced_steps(few)
        truths = {copy: forced.get(copy, operation != "both") for copy in few.all_copies()} if steps is None else None
    return None if truths is None else few.plays(truths)


def chosen_truths(few):
    """Truths of all copies by which clauses of two literals at most hold, of which none is shown to be lost.

    A literal that does not lead to its own other truth may be chosen with
    all that it leads to.
    """
    edges = edges_of(few)
    truths = {}
    for copy in few.all_copies():
        if copy not in truths:
            ways = ways_from(edges, (copy, False))
            if (copy, True) in ways:
                ways = ways_from(edges, (copy, True))
            for other, truth in ways:
                truths[other] = truth
    return truths


def is_few(question, operation, thing):
    """Whether an object is a few paper."""
    need_kept(question, operation)
    return are_few(FewCopies(question, operation), thing)


def are_few(few, thing):
    """Whether an object is a list of such plays."""
    question = few.question
    if not is_tuple_of(thing, len(few.rows)) or not all([are_all_truths(question, play) for play in thing]):
        return False
    copies = {}
    for row, play in enumerate(thing):
        if tuple([play[place] for place in few.their_places]) != few.rows[row]:
            return False
        if not is_won_code(question, position_code(play)):
            return False
        for place in few.our_places:
            if copies.setdefault(few.copy_at(row, place), play[place]) != play[place]:
                return False
    return True
