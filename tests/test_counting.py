import unittest
from collections import Counter

from marksinturn.counting import best_policy, counted
from marksinturn.errors import BadK, BadPosition, BadQuestion, NoneSets, NotOurs
from marksinturn.forced import done_there, two_there, worth_through
from marksinturn.policies import follows, is_policy
from marksinturn.policyworths import policy_worth
from marksinturn.questions import Question
from marksinturn.worth import worth_of
from tests.plain import (
    all_positions, any_objects, fraction, hand_at, mean, names_of, pair, questions, same, spoil, value, won,
)

EXAMPLE = Question(
    [("b", (1, 3)), ("a", "we"), ("c", "they")],
    [[("a", True), ("b", True)], [("a", False), ("b", False), ("c", True)]],
    [],
)


def policies_from(question, position):
    """All policies from a position on, in order: each its worth and what it sets at which position."""
    place = len(position)
    if place == len(question.marks()):
        return [(value(question, position), {})]
    hand = hand_at(question, place)
    nos = policies_from(question, position + [False])
    yeses = policies_from(question, position + [True])
    if hand == "we":
        told = []
        for truth, side in ((False, nos), (True, yeses)):
            told.extend((worth, {**sets, tuple(position): truth}) for worth, sets in side)
        return told
    return [
        (min(one, two) if hand == "they" else mean(hand, one, two), {**sets, **others})
        for one, sets in nos for two, others in yeses
    ]


def as_told(question, sets):
    """A policy of policies_from as best_policy tells it."""
    told = {name: [] for name, by in question.marks() if by == "we"}
    for position in sorted(sets):
        if sets[position]:
            literals = [
                (name, truth) for (name, by), truth in zip(question.marks(), position) if by != "we"
            ]
            told[names_of(question)[len(position)]].append((literals, True))
    return told


def small(seed, many):
    """Questions with not too many policies."""
    for question in questions(seed, many):
        histories, count = 0, 1
        for _, by in question.marks():
            if by == "we":
                histories += count
            else:
                count *= 2
        if histories <= 10:
            yield question, histories


class CountingTest(unittest.TestCase):
    def test_example(self):
        self.assertTrue(same(counted(EXAMPLE, []), {(0, 1): 1, (1, 3): 1, (2, 3): 1, (1, 1): 1}))
        self.assertTrue(same(best_policy(EXAMPLE, 0), {"a": [([("b", False)], True)]}))
        self.assertEqual(worth_through(EXAMPLE, [True, True]), (2, 3))
        self.assertEqual(done_there(EXAMPLE, [True]), [False])
        self.assertIsNone(two_there(EXAMPLE, [True]))

    def test_counted(self):
        for question, histories in small(30, 80):
            for position in all_positions(question):
                counts = Counter(worth for worth, _ in policies_from(question, position))
                told = counted(question=question, position=tuple(position))
                self.assertTrue(same(told, {pair(worth): counts[worth] for worth in sorted(counts)}))
                self.assertEqual(list(told)[-1], worth_of(question, position))
            self.assertEqual(sum(counted(question, []).values()), 2 ** histories)

    def test_best_policies(self):
        for question, _ in small(31, 80):
            best = value(question, [])
            expected = [as_told(question, sets) for worth, sets in policies_from(question, []) if worth == best]
            for k in list(range(len(expected)))[:40] + [len(expected) - 1]:
                told = best_policy(question=question, k=k)
                self.assertTrue(same(told, expected[k]))
                self.assertTrue(is_policy(question, "we", told))
                self.assertEqual(policy_worth(question, "we", told, []), pair(best))
            for k in (len(expected), -1, True, None, "0", 10 ** 40):
                with self.assertRaises(BadK) as caught:
                    best_policy(question, k)
                self.assertIs(caught.exception.k, k)

    def test_edges(self):
        none = Question([], [[]], [])
        self.assertEqual(counted(none, []), {(0, 1): 1})
        self.assertEqual(best_policy(none, 0), {})
        self.assertEqual(counted(Question([("a", "we")], [], []), []), {(1, 1): 2})
        self.assertEqual(best_policy(Question([("a", "we")], [], []), 1), {"a": [([], True)]})

    def test_new_each_time(self):
        for tell in (lambda: counted(EXAMPLE, []), lambda: best_policy(EXAMPLE, 0)):
            told, before = tell(), tell()
            spoil(told)
            self.assertTrue(same(tell(), before))

    def test_errors(self):
        for thing in any_objects():
            if not isinstance(thing, Question):
                for ask in (counted, best_policy, worth_through, done_there, two_there):
                    with self.assertRaises(BadQuestion) as caught:
                        ask(thing, -1)
                    self.assertIs(caught.exception.question, thing)
            if thing not in ([], (), [True]):
                for ask in (counted, worth_through, done_there, two_there):
                    with self.assertRaises(BadPosition) as caught:
                        ask(EXAMPLE, thing)
                    self.assertIs(caught.exception.position, thing)
            if thing != 0 or isinstance(thing, bool):
                with self.assertRaises(BadK) as caught:
                    best_policy(EXAMPLE, thing)
                self.assertIs(caught.exception.k, thing)

    def test_at_the_limits(self):
        for seed in range(32, 40):
            question = questions(seed, 1, least=8, most=8, chance=False, clauses=20, width=4)[0]
            marks = question.marks()
            for at, odds in ((seed % 8, (1, 1000)), ((seed + 3) % 8, (999, 1000)), ((seed + 5) % 8, (7, 31))):
                marks[at] = (marks[at][0], odds)
            question = Question(marks, question.wishes(), question.guards())
            counts = counted(question, [])
            best = list(counts)[-1]
            self.assertEqual(best, worth_of(question, []))
            for k in (0, counts[best] // 3, counts[best] - 1):
                self.assertEqual(policy_worth(question, "we", best_policy(question, k), []), best)


class ForcedTest(unittest.TestCase):
    def comes(self, question, sets, position):
        """Whether a policy comes to a position, as far as our own marks go."""
        return all(
            sets[tuple(position[:place])] == position[place]
            for place in range(len(position)) if hand_at(question, place) == "we"
        )

    def test_forced(self):
        seen = Counter()
        for question, _ in small(40, 80):
            policies = policies_from(question, [])
            best = value(question, [])
            for position in all_positions(question):
                through = [worth for worth, sets in policies if self.comes(question, sets, position)]
                told = worth_through(question=question, position=tuple(position))
                self.assertTrue(same(told, pair(max(through))))
                self.assertEqual(fraction(told) == best, best in through)
                if len(position) == len(question.marks()):
                    error = NoneSets
                elif hand_at(question, len(position)) != "we":
                    error = NotOurs
                else:
                    self.check_done(question, position, policies, best)
                    seen[len(done_there(question, position))] += 1
                    continue
                for ask in (done_there, two_there):
                    with self.assertRaises(error) as caught:
                        ask(question, position)
                    self.assertIs(caught.exception.position, position)
        self.assertTrue(min(seen[0], seen[1], seen[2]) > 5)

    def check_done(self, question, position, policies, best):
        sets_there = {
            sets[tuple(position)] for worth, sets in policies
            if worth == best and self.comes(question, sets, position)
        }
        self.assertTrue(same(done_there(question=question, position=position), sorted(sets_there)))
        two = two_there(question=question, position=tuple(position))
        if len(sets_there) < 2:
            self.assertIsNone(two)
            return
        self.assertIs(type(two), tuple)
        for truth, policy in zip((False, True), two):
            matching = [
                sets for worth, sets in policies
                if worth == best and self.comes(question, sets, position + [truth]) and as_told(question, sets) == policy
            ]
            self.assertTrue(matching)
            self.assertTrue(same(policy, as_told(question, matching[0])))
            self.assertTrue(is_policy(question, "we", policy))

    def test_done_but_not_right(self):
        """Behind a blunder of theirs a best policy may do anything."""
        question = Question([("x", "they"), ("y", "we")], [[("x", True)], [("y", True)]], [])
        self.assertEqual(done_there(question, [True]), [False, True])
        no, yes = two_there(question, [True])
        self.assertFalse(follows(question, "we", no, [True, True]))
        self.assertTrue(follows(question, "we", yes, [True, True]))


if __name__ == "__main__":
    unittest.main()
