"""Lost papers: steps by which few plays cannot all be won."""

from marksinturn.copysteps import edges_of, forced_steps, way_to, ways_from
from marksinturn.fewcopies import FewCopies
from marksinturn.operations import need_kept
from marksinturn.shapes import is_below, is_count, is_list, is_tuple_of


def lost_paper(question, operation):
    """A paper that shows the few plays to be lost; None if there is none."""
    need_kept(question, operation)
    few = FewCopies(question, operation)
    if operation == "middle":
        return lost_ways(few)
    _, steps = forced_steps(few)
    return steps


def lost_ways(few):
    """A step without literals of copies, or a copy with ways from each of its truths to the other; None else."""
    for step, clause in few.all_clauses():
        if not clause:
            return [step]
    edges = edges_of(few)
    for copy in few.all_copies():
        there = way_to(ways_from(edges, (copy, True)), (copy, False))
        if there is not None:
            back = way_to(ways_from(edges, (copy, False)), (copy, True))
            if back is not None:
                return (copy, there, back)
    return None


def is_lost_paper(question, operation, thing):
    """Whether an object is a lost paper."""
    need_kept(question, operation)
    few = FewCopies(question, operation)
    if not is_list(thing):
        return False
    if operation != "middle":
        return are_forcing_steps(few, thing)
    if is_tuple_of(thing, 1):
        return clause_of_step(few, thing[0]) == []
    return len(thing) == 3 and are_both_ways(few, thing[0], thing[1], thing[2])


def clause_of_step(few, thing):
    """The literals of copies of the step that an object is; None if it is none."""
    if not is_tuple_of(thing, 2):
        return None
    row, wish = thing
    if not is_below(row, len(few.rows)) or not is_below(wish, len(few.question.wish_lists)):
        return None
    return few.clause_at(row, wish)


def are_forcing_steps(few, steps):
    """Whether each thing is a step that forces a copy, but the last one, which leaves no truth to any."""
    forcing = few.operation == "both"
    copies = {}
    for at, step in enumerate(steps):
        clause = clause_of_step(few, step)
        if clause is None:
            return False
        heads = [copy for copy, truth in clause if truth == forcing]
        if any([truth != forcing and copy not in copies for copy, truth in clause]):
            return False
        if len(heads) != (0 if at == len(steps) - 1 else 1):
            return False
        for copy in heads:
            copies[copy] = True
    return len(steps) > 0


def are_both_ways(few, copy, there, back):
    """Whether objects are a copy, a way from its Yes to its No, and one from its No to its Yes."""
    if not is_tuple_of(copy, 2) or not isinstance(copy[0], str) or not is_count(copy[1]):
        return False
    one = tuple(copy)
    return does_lead(few, (one, True), there, (one, False)) and does_lead(few, (one, False), back, (one, True))


def does_lead(few, start, steps, goal):
    """Whether an object is a list of steps that lead from one literal to another."""
    if not is_list(steps):
        return False
    copy, truth = start
    for step in steps:
        clause = clause_of_step(few, step)
        if clause is None or len(clause) > 2 or (copy, not truth) not in clause:
            return False
        others = [literal for literal in clause if literal != (copy, not truth)]
        copy, truth = others[0] if others else (copy, not truth)
    return (copy, truth) == goal
