"""What bars that boxes tell: what each may not tell together with the others, where it sees so, as clauses of copies.

A copy of a box is what it tells where it sees so; a clause of copies is a
code, as those of marks.
"""

from marksinturn.circuits import boxes_of, outs_of, unlike_pattern, wires
from marksinturn.clausesolving import Solving
from marksinturn.literals import truth_bit
from marksinturn.tables import full_pattern, index_of, position_at, yes_patterns


class Bars:
    """A circuit with boxes held against another one, at all inputs."""

    def __init__(self, circuit, other):
        self.many = len(circuit[0])
        self.names = [name for name, _ in boxes_of(circuit)]
        patterns = yes_patterns(self.many)
        full = full_pattern(self.many)
        wanted = outs_of(other, patterns, full, {})
        # For what the boxes tell, as the index of a position, the pattern of the inputs at which outs are unlike.
        self.unlike = []
        for index in range(1 << len(self.names)):
            told = position_at(len(self.names), index)
            given = {name: full if truth else 0 for name, truth in zip(self.names, told)}
            self.unlike.append(unlike_pattern(outs_of(circuit, patterns, full, given), wanted))
        found = wires(circuit, patterns, full, {name: 0 for name in self.names})
        self.seen = [[found[part] for part in parts] for _, parts in boxes_of(circuit)]
        self.starts = []
        self.copies = 0
        for parts in self.seen:
            self.starts.append(self.copies)
            self.copies += 1 << len(parts)

    def seen_at(self, box, at):
        """The row of truths, by its index, that a box sees at the input with an index."""
        return index_of([pattern >> at & 1 for pattern in self.seen[box]])

    def clause(self, at, told):
        """The code of the clause by which the boxes do not all tell this at the input with an index."""
        copies = [start + self.seen_at(box, at) for box, start in enumerate(self.starts)]
        return sum([truth_bit(copy, not truth) for copy, truth in zip(copies, told)])

    def is_bar(self, at, told):
        """Whether the outs are unlike at the input with an index if the boxes tell this."""
        return self.unlike[index_of(told)] >> at & 1 == 1

    def all_bars(self):
        """The pairs of an input's index and of what may not be told there, ascending."""
        every = [position_at(len(self.names), index) for index in range(len(self.unlike))]
        return [(at, told) for at in range(1 << self.many) for told in every if self.is_bar(at, told)]

    def solving(self, bars):
        """What is found out of the clauses of some bars."""
        return Solving(self.copies, [self.clause(at, told) for at, told in bars])
