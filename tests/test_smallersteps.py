import random
import unittest

from marksinturn import errors, refusals
from marksinturn.ledback import led_back, plain_policy, plain_value
from marksinturn.policies import bare_policy
from marksinturn.policyworths import policy_worth
from marksinturn.questions import Question
from marksinturn.smallersteps import smaller, stepped, steps_fault, steps_of
from tests.plain import (
    any_objects, as_lists, as_tuples, does_follow, fraction, made_policy, made_question, names_of, raised, same, tells, told_alike, value,
)

WISHES = [[("x", True), ("u", True)], [("u", True), ("y", True)], [("u", False), ("y", False)]]
QUESTION = Question([("x", "we"), ("u", "they"), ("y", "we")], WISHES, [])
STEPS = [("pure", "x"), ("last", "wish", 0), ("joined", "y"), ("blocked", 0, "x"), ("blocked", 1, "y"), ("blocked", 2, "y")]


def turned(literals):
    return [(mark, not truth) for mark, truth in literals]


class Words:
    """A question's clauses as sets of literals, by the words of the document."""

    def __init__(self, question):
        self.marks = question.marks()
        self.names = names_of(question)
        self.hands = dict(self.marks)
        self.lots = {"wish": [frozenset(one) for one in question.wishes()], "guard": [frozenset(one) for one in question.guards()]}

    def in_some(self, kind, mark):
        return {truth for clause in self.lots[kind] for name, truth in clause if name == mark}

    def is_ours_unguarded(self, mark):
        return self.hands[mark] == "we" and not self.in_some("guard", mark)

    def place(self, mark):
        return self.names.index(mark)

    def last_of(self, clause):
        return max((mark for mark, _ in clause), key=self.place)

    def steps(self):
        wishes, guards = self.lots["wish"], self.lots["guard"]
        found = []
        won = frozenset() in guards or not wishes
        lost = frozenset() in wishes and not guards
        if won and (wishes or guards) or lost and wishes != [frozenset()]:
            found.append(("over",))
        for kind in ("wish", "guard"):
            for i, clause in enumerate(self.lots[kind]):
                others = [(j, other) for j, other in enumerate(self.lots[kind]) if j != i and other <= clause]
                if any(len(other) < len(clause) or j < i for j, other in others):
                    found.append(("twice", kind, i))
        found += [("single", mark) for mark in self.names if self.single_truth(mark) is not None]
        found += [("pure", mark) for mark in self.names if self.pure_truth(mark) is not None]
        for kind, hand, other in (("wish", "they", "guard"), ("guard", "we", "wish")):
            for i, clause in enumerate(self.lots[kind]):
                if clause and self.hands[self.last_of(clause)] == hand and not self.in_some(other, self.last_of(clause)):
                    found.append(("last", kind, i))
        found += [("joined", mark) for mark in self.names if self.joined(mark) is not None]
        for i, clause in enumerate(wishes):
            for mark in sorted((mark for mark, _ in clause), key=self.place):
                if self.is_ours_unguarded(mark) and self.is_blocked(clause, mark):
                    found.append(("blocked", i, mark))
        return found

    def single_truth(self, mark):
        if self.is_ours_unguarded(mark):
            for clause in self.lots["wish"]:
                if len(clause) == 1 and list(clause)[0][0] == mark:
                    return list(clause)[0][1]
        return None

    def pure_truth(self, mark):
        """The truth to which it is set."""
        wishes, guards = self.in_some("wish", mark), self.in_some("guard", mark)
        for truth in (False, True):
            if wishes | guards and wishes <= {truth} and guards <= {not truth}:
                return {"we": truth, "they": not truth}.get(self.hands[mark])
        return None

    def joined(self, mark):
        """The wishes when it is joined."""
        having = [one for one in self.lots["wish"] if any(name == mark for name, _ in one)]
        if not self.is_ours_unguarded(mark) or not having or any(self.last_of(one) != mark for one in having):
            return None
        left = [one for one in self.lots["wish"] if one not in having]
        come = []
        for yes in [one for one in having if (mark, True) in one]:
            for no in [one for one in having if (mark, False) in one]:
                both = (yes | no) - {(mark, True), (mark, False)}
                if not any((name, not truth) in both for name, truth in both) and both not in left + come:
                    come.append(both)
        return left + come if len(come) <= len(having) else None

    def is_blocked(self, clause, mark):
        truth = dict(clause)[mark]
        ahead = {(name, side) for name, side in clause if self.place(name) < self.place(mark)}
        return all(set(turned(ahead)) & one for one in self.lots["wish"] if (mark, not truth) in one)

    def without(self, mark, truth):
        return {
            kind: [one - {(mark, not truth)} for one in lot if (mark, truth) not in one] for kind, lot in self.lots.items()
        }

    def behind(self, step):
        lots = {kind: list(lot) for kind, lot in self.lots.items()}
        if step[0] == "over":
            lost = frozenset() in lots["wish"] and not lots["guard"]
            lots = {"wish": [frozenset()] if lost else [], "guard": []}
        elif step[0] == "twice":
            del lots[step[1]][step[2]]
        elif step[0] in ("single", "pure"):
            lots = self.without(step[1], self.single_truth(step[1]) if step[0] == "single" else self.pure_truth(step[1]))
        elif step[0] == "last":
            clause = lots[step[1]][step[2]]
            lots[step[1]][step[2]] = frozenset(one for one in clause if one[0] != self.last_of(clause))
        elif step[0] == "joined":
            lots["wish"] = self.joined(step[1])
        else:
            del lots["wish"][step[1]]
        return lots

    def pair_ahead(self, step):
        """The mark that a step tells of, and the pairs that go ahead of its function's, or for all of it; None without."""
        if step[0] in ("single", "pure"):
            return step[1], [([], self.single_truth(step[1]) if step[0] == "single" else self.pure_truth(step[1]))], False
        if step[0] == "last":
            clause = self.lots[step[1]][step[2]]
            mark = self.last_of(clause)
            return mark, [(turned(one for one in clause if one[0] != mark), not dict(clause)[mark])], False
        if step[0] == "blocked":
            clause = self.lots["wish"][step[1]]
            ahead = [one for one in clause if self.place(one[0]) < self.place(step[2])]
            return step[2], [(turned(ahead), dict(clause)[step[2]])], False
        if step[0] == "joined":
            went = [one for one in self.lots["wish"] if (step[1], True) in one]
            return step[1], [(turned(one - {(step[1], True)}), True) for one in went], True
        return None


def as_sets(question):
    return {"wish": [frozenset(one) for one in question.wishes()], "guard": [frozenset(one) for one in question.guards()]}


def back_by_words(question, steps, hand, policy):
    ways = [question]
    for step in steps:
        ways.append(stepped(ways[-1], step))
    policy = bare_policy(ways[-1], hand, policy)
    for ahead, step in list(zip(ways, steps))[::-1]:
        told = Words(ahead).pair_ahead(step)
        if told is not None and told[0] in policy:
            mark, pairs, every = told
            policy = {**policy, mark: pairs if every else pairs + policy[mark]}
        policy = bare_policy(ahead, hand, policy)
    return policy


def some_questions(seed, many, most=5):
    source = random.Random(seed)
    for _ in range(many):
        yield source, made_question(source, source.randint(0, most), width=source.choice([1, 2, 3]))


def a_way(source, question):
    steps = []
    while steps_of(question) and source.random() < 0.95:
        steps.append(source.choice(steps_of(question)))
        question = stepped(question, steps[-1])
    return steps, question


class StepsTest(unittest.TestCase):
    def test_example(self):
        self.assertTrue(same(told_alike(self, steps_of, question=QUESTION), STEPS))
        told = told_alike(self, smaller, question=QUESTION)
        self.assertTrue(same(told, ([("pure", "x"), ("joined", "y")], Question(QUESTION.marks(), [], []))))
        self.assertEqual(plain_value(QUESTION), (1, 1))
        policy = told_alike(self, plain_policy, question=QUESTION, hand="we")
        self.assertTrue(same(policy, {"x": [([], True)], "y": [([("u", False)], True)]}))
        self.assertIsNone(plain_policy(QUESTION, "they"))

    def test_by_their_words(self):
        kinds = {}
        for _, question in some_questions(2000, 500):
            told = told_alike(self, steps_of, question=question)
            self.assertTrue(same(told, Words(question).steps()))
            for step in told:
                behind = told_alike(self, stepped, question=question, step=step)
                self.assertEqual(behind.marks(), question.marks())
                self.assertEqual(as_sets(behind), Words(question).behind(step))
                self.assertEqual(value(behind, []), value(question, []))
                kinds[step[:1 + (step[0] in ("twice", "last"))]] = kinds.get(step[:1 + (step[0] in ("twice", "last"))], 0) + 1
                # Fewer marks, or fewer clauses, or fewer literals.
                sizes = [
                    (len({mark for lot in lots.values() for one in lot for mark, _ in one}), sum(map(len, lots.values())),
                     sum(len(one) for lot in lots.values() for one in lot))
                    for lots in (as_sets(behind), as_sets(question))
                ]
                self.assertLess(*sizes)
        self.assertEqual(set(kinds), {("over",), ("twice", "wish"), ("twice", "guard"), ("single",), ("pure",), ("last", "wish"), ("last", "guard"), ("joined",), ("blocked",)})
        self.assertGreater(min(kinds.values()), 20, kinds)

    def test_edges(self):
        we, they, chance = [[("a", hand), ("b", hand), ("c", hand)] for hand in ("we", "they", (1, 2))]
        a, b, c = [[(name, True)] for name in "abc"]
        na, nb, nc = [[(name, False)] for name in "abc"]
        cases = [
            (we, [], [], []), (we, [[]], [], []), (we, [[], []], [], [("over",), ("twice", "wish", 1)]), (we, [], [[]], [("over",)]),
            (we, [[]], [[]], [("over",)]), (we, [[], a], [], [("over",), ("twice", "wish", 1), ("single", "a"), ("pure", "a"), ("joined", "a"), ("blocked", 1, "a")]),
            (they, [a, a], [], [("twice", "wish", 1), ("pure", "a"), ("last", "wish", 0), ("last", "wish", 1)]),
            (they, [a + b, a], [], [("twice", "wish", 0), ("pure", "a"), ("pure", "b"), ("last", "wish", 0), ("last", "wish", 1)]),
            # A guard forbids what sets a mark of ours.
            (we, [a, na + b], [a, b], []), (we, [a], [na], [("pure", "a")]), (we, [], [na], [("over",), ("pure", "a"), ("last", "guard", 0)]),
            (they, [na, na + b], [na + nb], [("twice", "wish", 1), ("pure", "b")]),
            # So does chance.
            (chance, [a, a + b], [], [("twice", "wish", 1)]), (chance, [a, na], [b], []),
            # Like clauses, clauses with both truths of a mark, and too many of them.
            (we, [a + c, b + c, nc], [], [("single", "c"), ("pure", "a"), ("pure", "b"), ("joined", "c"), ("blocked", 0, "a"), ("blocked", 1, "b")]),
        ]
        for marks, wishes, guards, wanted in cases:
            question = Question(marks, wishes, guards)
            self.assertEqual(steps_of(question), wanted, (wishes, guards))
            self.assertEqual(Words(question).steps(), wanted)
        joined = Question(they[:2] + [("c", "we")], [a + c, na + nc, a + nc, b + c, na + b], [])
        self.assertEqual(stepped(joined, ("joined", "c")).wishes(), [na + b, a, a + b])
        many = Question([(name, "they") for name in "abdefg"] + [("c", "we")], [a + c, b + c, [("d", True)] + c] + [[(name, True)] + nc for name in "efg"], [])
        self.assertNotIn(("joined", "c"), steps_of(many))
        self.assertIn(("joined", "c"), steps_of(Question(many.marks(), many.wishes()[2:], [])))
        four = Question(many.marks(), many.wishes()[1:5], [])
        self.assertEqual(len(stepped(four, ("joined", "c")).wishes()), 4)

    def test_to_the_end(self):
        for source, question in some_questions(2010, 300):
            steps, left = told_alike(self, smaller, question=question)
            now = question
            for step in steps:
                self.assertTrue(same(steps_of(now)[0], step))
                now = stepped(now, step)
            self.assertEqual((now, steps_of(now)), (left, []))
            for shape in (as_lists, as_tuples):
                self.assertIsNone(steps_fault(question, shape(steps)))
            steps, _ = a_way(source, question)
            self.assertIsNone(told_alike(self, steps_fault, question=question, thing=steps))
            for _ in range(3):
                thing = list(steps)
                at = source.randint(0, len(thing))
                other = source.choice(STEPS + steps + [("twice", "wish", 1), ("single", "a"), ("over",), ("last", "guard", 0)])
                thing[at:at + source.randint(0, 1)] = [other] * source.randint(0, 1)
                wanted, now = None, question
                for index, step in enumerate(thing):
                    if step not in Words(now).steps():
                        wanted = index
                        break
                    now = stepped(now, step)
                self.assertTrue(same(steps_fault(question, thing), wanted))

    def test_at_the_limits(self):
        source = random.Random(2020)
        for many in (40, 60):
            question = made_question(source, 12, clauses=many, chance=False, width=2)
            steps, left = smaller(question)
            self.assertEqual(steps_of(left), [])
            policy = made_policy(source, question, "we", pairs=60)
            self.assertGreaterEqual(fraction(policy_worth(question, "we", led_back(question, steps, "we", policy), [])), fraction(policy_worth(left, "we", policy, [])))

    def test_errors(self):
        for thing in any_objects():
            if not isinstance(thing, Question):
                for ask in (steps_of, smaller, plain_value):
                    raised(self, errors.BadQuestion, ask, thing, question=thing)
                for ask in (stepped, steps_fault, plain_policy):
                    raised(self, errors.BadQuestion, ask, thing, None, question=thing)
                raised(self, errors.BadQuestion, led_back, thing, None, None, None, question=thing)
            raised(self, refusals.BadStep, stepped, QUESTION, thing, step=thing)
            if thing not in ([], ()):
                self.assertTrue(same(steps_fault(question=QUESTION, thing=thing), 0), thing)
                raised(self, refusals.BadWay, led_back, QUESTION, thing, None, None, index=0)
            self.assertTrue(same(steps_fault(QUESTION, [STEPS[0], thing, None]), 1))
            raised(self, refusals.BadWay, led_back, QUESTION, [STEPS[0], thing, None], None, None, index=1)
            if thing not in ("we", "they"):
                raised(self, errors.BadHand, led_back, QUESTION, STEPS[:1], thing, None, hand=thing)
                raised(self, errors.BadHand, plain_policy, QUESTION, thing, hand=thing)
            raised(self, errors.BadPolicy, led_back, QUESTION, [], "we", thing, policy=thing)
        for step in [("last", "wish", False), ("last", "wish", 1), ("last", "guard", 0), ("pure", "u"), ("pure",), ("pure", "x", 0), ("blocked", "x", 0), "over", ("over",), ("blocked", True, "y")]:
            raised(self, refusals.BadStep, stepped, QUESTION, step, step=step)
        for policy in ({"x": []}, {"x": [], "y": [], "u": []}, {"x": [], "y": [([("y", True)], True)]}):
            raised(self, errors.BadPolicy, led_back, QUESTION, STEPS[:1], "we", policy, policy=policy)


class LedBackTest(unittest.TestCase):
    def test_by_their_words(self):
        over = set()
        for source, question in some_questions(2030, 400):
            steps, left = a_way(source, question)
            for hand in ("we", "they"):
                policy = made_policy(source, question, hand)
                told = told_alike(self, led_back, question=question, steps=steps, hand=hand, policy=policy)
                self.assertTrue(same(told, back_by_words(question, steps, hand, policy)))
                ahead, behind = fraction(policy_worth(question, hand, told, [])), fraction(policy_worth(left, hand, policy, []))
                self.assertTrue(ahead >= behind if hand == "we" else ahead <= behind)
                hands = dict(question.marks())
                now = question
                for step in steps:
                    tells_of = Words(now).pair_ahead(step)
                    over.add((step[0], hand, tells_of is not None and hands[tells_of[0]] == hand))
                    now = stepped(now, step)
        for word, hand in [("single", "we"), ("pure", "we"), ("pure", "they"), ("last", "we"), ("last", "they"), ("joined", "we"), ("blocked", "we")]:
            self.assertIn((word, hand, True), over)

    def test_no_steps(self):
        for source, question in some_questions(2040, 60):
            for hand in ("we", "they"):
                policy = made_policy(source, question, hand)
                self.assertTrue(same(led_back(question, [], hand, policy), bare_policy(question, hand, policy)))

    def test_plain(self):
        found = {}
        for _, question in some_questions(2050, 400):
            told = told_alike(self, plain_value, question=question)
            _, left = smaller(question)
            wanted = (1, 1) if not left.wishes() else (0, 1) if [] in left.wishes() and not left.guards() else None
            self.assertTrue(same(told, wanted))
            self.assertTrue(told is None or fraction(told) == value(question, []))
            found[told] = found.get(told, 0) + 1
            for hand, sure in (("we", (1, 1)), ("they", (0, 1))):
                policy = told_alike(self, plain_policy, question=question, hand=hand)
                self.assertEqual(policy is None, told != sure)
                if policy is not None:
                    self.assertEqual(policy_worth(question, hand, policy, []), sure)
                    steps, _ = smaller(question)
                    empty = {name: [] for name, by in question.marks() if by == hand}
                    self.assertTrue(same(policy, led_back(question, steps, hand, empty)))
                    self.assertTrue(same(policy, bare_policy(question, hand, policy)))
        self.assertGreater(min(found.values()), 30)
        self.assertEqual(len(found), 3)


if __name__ == "__main__":
    unittest.main()
