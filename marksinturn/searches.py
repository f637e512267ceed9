"""The search step by step."""

from marksinturn.errors import BadPositions, BadSteps
from marksinturn.numbersof import fraction_of
from marksinturn.positions import are_first_truths
from marksinturn.questions import need_question
from marksinturn.rowsearch import value_search
from marksinturn.shapes import is_count, is_list
from marksinturn.tellers import rows_telling


class Plan:
    """All rows that a search will have laid when it is done, in their order."""

    def __init__(self, question, positions):
        self.search = value_search(question)
        for position in positions:
            self.search.settle_both(position)
        self.many = self.rows_until_all_meet(positions)
        # One row a step, but more where there would be more steps than positions.
        at_most = (2 << len(question.names)) - 1
        self.stride = max(1, -(-self.many // at_most))

    def rows_until_all_meet(self, positions):
        """How many rows, from the first one on, make all positions' bounds meet."""
        search = self.search
        triples = [(row.place, row.code, row) for row in search.rows]
        many = 0
        for position, told in rows_telling(triples, positions).items():
            part = search.part_at(position)
            least = [row.index for _, _, row in told if row.kind == "least" and row.part == part]
            most = [row.index for _, _, row in told if row.kind == "most" and row.part == part]
            if part > 0:
                many = max(many, min(least) + 1)
            if part < search.whole:
                many = max(many, min(most) + 1)
        return many

    def steps_left(self, laid):
        """How many steps are left where so many rows are laid."""
        return -(-(self.many - laid) // self.stride)

    def laid_behind(self, laid, steps):
        """How many rows are laid behind so many more steps."""
        return min(self.many, laid + steps * self.stride)


class Search:
    """A search for rows that meet at each of some positions, as far as it went."""

    def __init__(self, question, positions):
        need_question(question)
        if not is_list(positions):
            raise BadPositions(0)
        for index, position in enumerate(positions):
            if not are_first_truths(question, position):
                raise BadPositions(index)
        self.question = question
        self.positions = [list(position) for position in positions]
        self.laid = 0
        self.plan = None

    def planned(self):
        """The plan, which is made when it is first asked for."""
        if self.plan is None:
            self.plan = Plan(self.question, self.positions)
        return self.plan

    def go(self, steps):
        """Do so many steps, fewer only if then all positions' bounds meet; how many were done."""
        if not is_count(steps):
            raise BadSteps(steps)
        plan = self.planned()
        done = min(steps, plan.steps_left(self.laid))
        self.laid = plan.laid_behind(self.laid, done)
        return done

    def rows_so_far(self):
        """The rows that are laid."""
        return self.planned().search.rows[:self.laid]

    def found(self):
        """The paper so far."""
        return [self.planned().search.told(row) for row in self.rows_so_far()]

    def meets(self):
        """The bounds of the paper so far at the positions, in order."""
        triples = [(row.place, row.code, row) for row in self.rows_so_far()]
        whole = self.planned().search.whole
        told = rows_telling(triples, self.positions)
        return [bounds_of(told[tuple(position)], whole) for position in self.positions]

    def is_done(self):
        """Whether the bounds at all positions meet."""
        return self.laid == self.planned().many

    def copy(self):
        """A search that is as far, and goes on by itself."""
        other = Search(self.question, self.positions)
        other.plan = self.plan
        other.laid = self.laid
        return other

    def __eq__(self, other):
        return (
            isinstance(other, Search)
            and self.question == other.question
            and self.positions == other.positions
            and self.laid == other.laid
        )


def bounds_of(triples, whole):
    """The pair of the numbers that rows tell, in triples of which these are the last."""
    low = max([row.part for _, _, row in triples if row.kind == "least"], default=0)
    high = min([row.part for _, _, row in triples if row.kind == "most"], default=whole)
    return (fraction_of(low, whole), fraction_of(high, whole))
