"""Clauses of marks that one hand sets: truths by which all hold, or joins that lead to the empty clause.

A clause is a code of its literals. What has to be is set, else something is
tried; where a clause is against, it is joined with those that forced its
literals, until it tells that something was to be otherwise earlier: this
clause is laid behind the others, and what was tried goes back so far.
"""

from marksinturn.hanging import needed_of, new_places


class Solving:
    """Rows of clauses, with what is set and why."""

    def __init__(self, many, codes):
        self.rows = []
        self.hows = []
        self.indexes = {}
        self.occurs = [[] for _ in range(2 * many)]
        self.against = 0
        self.held = 0
        # The literals that are set, as numbers of their bits, in order; and where each trial began.
        self.trail = []
        self.done = 0
        self.starts = []
        self.depths = [0] * many
        self.reasons = [0] * many
        self.tried = [False] * many
        self.weights = [0] * many
        self.weight = 1
        self.last = None
        for index, code in enumerate(codes):
            self.watch(self.lay(code, ("given", index)))
        self.run()

    def lay(self, code, how):
        """The index of the row with this code, laid behind the others if there is none."""
        if code not in self.indexes:
            self.indexes[code] = len(self.rows)
            self.rows.append(code)
            self.hows.append(how)
        return self.indexes[code]

    def watch(self, index):
        """Let a row force its last open literal, from now on."""
        code = self.rows[index]
        for bit in range(code.bit_length()):
            if code >> bit & 1 and index not in self.occurs[bit]:
                self.occurs[bit].append(index)
        if not code & self.held:
            left = code & ~self.against
            if not left:
                self.last = index
            elif not left & (left - 1):
                self.put(left.bit_length() - 1, index)

    def put(self, bit, reason):
        """Set a literal, with the row that forces it."""
        self.trail.append(bit)
        self.held |= 1 << bit
        self.against |= 1 << (bit ^ 1)
        self.depths[bit // 2] = len(self.starts)
        self.reasons[bit // 2] = reason

    def run(self):
        """Go on until all is set, or a row without literals is laid: the last one."""
        while True:
            index = self.last if self.last is not None else self.spread()
            if index is None:
                if not self.tries_more():
                    return
            else:
                self.last = None
                index = self.told_by(index)
                if not self.rows[index]:
                    self.last = index
                    return
                self.turn_back(index)

    def spread(self):
        """Set all that is forced; the index of a row that is against, None if there is none."""
        while self.done < len(self.trail):
            bit = self.trail[self.done]
            self.done += 1
            for index in self.occurs[bit ^ 1]:
                code = self.rows[index]
                if not code & self.held:
                    left = code & ~self.against
                    if not left:
                        return index
                    if not left & (left - 1):
                        self.put(left.bit_length() - 1, index)
        return None

    def tries_more(self):
        """Whether there was an open mark, the weightiest one of which is tried as it was set last."""
        everything = self.held | self.against
        places = [place for place in range(len(self.weights)) if not everything >> (2 * place) & 1]
        if not places:
            return False
        place = max(places, key=lambda at: self.weights[at])
        self.starts.append(len(self.trail))
        self.put(2 * place + int(self.tried[place]), None)
        return True

    def told_by(self, index):
        """The index of the row that a row which is against leads to, with one literal of the last trial alone."""
        here = 0
        start = self.starts[-1] if self.starts else len(self.trail)
        for bit in self.trail[start:]:
            here |= 1 << (bit ^ 1)
        for bit in self.trail[::-1]:
            code = self.rows[index]
            lately = code & here
            if not code or lately and not lately & (lately - 1):
                break
            if code >> (bit ^ 1) & 1:
                index = self.joined(index, self.reasons[bit // 2], bit)
        return index

    def joined(self, index, reason, bit):
        """The index of the row of one that has a literal's other truth, and of one that has it."""
        place = bit // 2
        code = (self.rows[index] | self.rows[reason]) & ~(3 << (2 * place))
        if bit & 1:
            return self.lay(code, ("join", index, reason, place))
        return self.lay(code, ("join", reason, index, place))

    def turn_back(self, index):
        """Take back trials until the one literal of a row that was set last is forced, and force it."""
        code = self.rows[index]
        places = [place for place in range(len(self.depths)) if code >> (2 * place) & 3]
        depths = sorted([self.depths[place] for place in places])
        depth = depths[-2] if len(depths) > 1 else 0
        start = self.starts[depth]
        for bit in self.trail[start:]:
            self.held ^= 1 << bit
            self.against ^= 1 << (bit ^ 1)
            self.tried[bit // 2] = bit & 1 == 1
        self.trail = self.trail[:start]
        self.starts = self.starts[:depth]
        self.done = min(self.done, start)
        for place in places:
            self.weights[place] += self.weight
        self.weight += self.weight // 16 + 1
        self.watch(index)

    def made(self):
        """The pairs of a code and how it is made, of just the rows on which the empty one hangs, it last."""
        places = new_places(needed_of([named(how) for how in self.hows], [self.last]))
        found = []
        for at in places:
            how = self.hows[at]
            if how[0] == "join":
                how = ("join", places[how[1]], places[how[2]], how[3])
            found.append((self.rows[at], how))
        return found


def named(how):
    """The indexes of the rows that a row is made of."""
    return how[1:3] if how[0] == "join" else ()
