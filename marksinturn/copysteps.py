"""What wishes on copies lead to, step by step: copies that have to be set, or ways from literal to literal."""


def forced_steps(few):
    """The copies that both, or either, forces, as a dict, and the steps by which the few plays are lost.

    Of the steps None is told if nothing shows that.
    """
    forcing = few.operation == "both"
    copies = {}
    steps = []
    waiting = few.all_clauses()
    is_new = True
    while is_new:
        is_new = False
        left = []
        for step, clause in waiting:
            heads = heads_of(clause, forcing, copies)
            if heads is None:
                left.append((step, clause))
            elif not heads:
                return copies, needed_steps(few, steps + [step])
            elif heads[0] not in copies:
                copies[heads[0]] = forcing
                steps.append(step)
                is_new = True
        waiting = left
    return copies, None


def heads_of(clause, forcing, copies):
    """The copies that a clause forces to the truth, all its others being forced; None if one is not."""
    heads = []
    for copy, truth in clause:
        if truth == forcing:
            heads.append(copy)
        elif copy not in copies:
            return None
    return heads


def needed_steps(few, steps):
    """Of steps that force copies, and a last one that forces none, those on which this one hangs, in order."""
    needed = set()
    kept = []
    for row, wish in steps[::-1]:
        clause = few.clause_at(row, wish)
        heads = [copy for copy, truth in clause if truth == (few.operation == "both")]
        if not heads or heads[0] in needed:
            kept.append((row, wish))
            for copy, _ in clause:
                needed.add(copy)
    return kept[::-1]


def edges_of(few):
    """For each literal of a copy the pairs of a step and the literal to which it leads, by clauses of two at most."""
    edges = {}
    for step, clause in few.all_clauses():
        for at, (copy, truth) in enumerate(clause):
            led = clause[1 - at] if len(clause) == 2 else clause[0]
            edges.setdefault((copy, not truth), []).append((step, led))
    return edges


def ways_from(edges, start):
    """For each literal that a way from one leads to the last step of it and the literal ahead; None of the start."""
    found = {start: None}
    level = [start]
    while level:
        behind = []
        for literal in level:
            for step, led in edges.get(literal, []):
                if led not in found:
                    found[led] = (step, literal)
                    behind.append(led)
        level = behind
    return found


def way_to(ways, goal):
    """The steps of the way to a literal; None if none leads there."""
    if goal not in ways:
        return None
    steps = []
    while ways[goal] is not None:
        step, goal = ways[goal]
        steps.append(step)
    return steps[::-1]
