import random
import unittest

from marksinturn.errors import BadHand, BadMark, BadPolicy, BadPosition, BadQuestion
from marksinturn.policies import (
    bare_policy, follows, is_policy, joined_policy, plays_of, policies_part, set_by, thin_policy,
)
from marksinturn.policyworths import beaten_play, both_worth, policy_worth, reply
from marksinturn.questions import Question
from marksinturn.worth import worth_of
from tests.plain import (
    all_plays, all_positions, any_objects, as_lists, as_tuples, does_follow, fraction, hand_at, made_policy, names_of, pair,
    questions, same, spoil, tells, value, won,
)

QUESTION = Question(
    [("a", "we"), ("b", (1, 3)), ("c", "they")],
    [[("a", True), ("b", False)], [("a", True), ("c", True)]],
    [[("c", False)]],
)
WE_THEY = Question([("a", "we"), ("b", "they"), ("c", "we"), ("d", (1, 2))], [[("c", True), ("b", True)]], [])
POLICY = {"a": [], "c": [([("b", True), ("a", False)], True), ([], False)]}


def cases(seed, many, **how):
    """Questions with two policies for each hand."""
    source = random.Random(seed)
    for question in questions(seed, many, **how):
        for hand in ("we", "they"):
            yield question, hand, made_policy(source, question, hand), made_policy(source, question, hand)


class IsPolicyTest(unittest.TestCase):
    def test_is_policy(self):
        for thing in [POLICY, as_lists(POLICY), as_tuples(POLICY), {"c": [], "a": ()}, {"c": [([], True)] * 9, "a": [([], True)]}]:
            self.assertIs(is_policy(question=WE_THEY, hand="we", thing=thing), True)
        for thing in [
            {"a": []}, {"a": [], "b": []}, {"a": [], "c": [], "b": []}, {"a": [], "c": None}, {"a": [], "c": [([], 1)]},
            {"a": [], "c": [([("c", True)], True)]}, {"a": [], "c": [([("d", True)], True)]}, {"a": [([("a", True)], True)], "c": []},
            {"a": [], "c": [([("b", True), ("b", True)], True)]}, {"a": [], "c": [([("x", True)], True)]}, {"a": [], "c": [([],)]},
            {"a": [], "c": [([], True, True)]}, {"a": [], "c": [([("b", 0)], True)]}, {"a": [], "c": "x"}, {"a": [], "c": {}},
            {"a": [], 1: []}, {"a": [], ("c",): []}, [("a", []), ("c", [])], {"a": [], "c": [None]}, {"a": [], "c": [[["b", True], True]]},
        ]:
            self.assertIs(is_policy(WE_THEY, "we", thing), False, thing)
        self.assertEqual([x for x in any_objects() if is_policy(Question([("a", "we")], [], []), "we", x)], any_objects_of_a())
        self.assertEqual([x for x in any_objects() if is_policy(Question([("a", "we")], [], []), "they", x)], [{}])
        self.assertTrue(is_policy(WE_THEY, "they", {"b": [([("a", True)], True)]}))

    def test_errors(self):
        for thing in any_objects():
            if not isinstance(thing, Question):
                with self.assertRaises(BadQuestion) as caught:
                    is_policy(thing, "us", None)
                self.assertIs(caught.exception.question, thing)
            if thing not in ("we", "they"):
                with self.assertRaises(BadHand) as caught:
                    is_policy(WE_THEY, thing, POLICY)
                self.assertIs(caught.exception.hand, thing)


def any_objects_of_a():
    return [{"a": []}, {"a": [([], True)]}]


class PolicyTest(unittest.TestCase):
    def test_set_by_follows_and_plays(self):
        for question, hand, policy, _ in cases(6, 40):
            for shape in (policy, as_tuples(policy), as_lists(policy)):
                plays = plays_of(question=question, hand=hand, policy=shape)
                self.assertTrue(same(plays, [play for play in all_plays(question) if does_follow(question, hand, policy, play)]))
            others = [by for _, by in question.marks() if by != hand]
            self.assertEqual(len(plays), 2 ** len(others))
            for position in all_positions(question):
                told = follows(question=question, hand=hand, policy=policy, position=position)
                self.assertIs(told, does_follow(question, hand, policy, position))
                place = len(position)
                if place < len(question.marks()) and hand_at(question, place) == hand:
                    truth = tells(question, policy[names_of(question)[place]], position)
                    self.assertIs(set_by(question=question, hand=hand, policy=policy, position=tuple(position)), truth)
                else:
                    with self.assertRaises(BadPosition) as caught:
                        set_by(question, hand, policy, position)
                    self.assertIs(caught.exception.position, position)

    def test_where_policies_part(self):
        alike = 0
        for question, hand, policy, other in cases(7, 60):
            part = policies_part(question=question, hand=hand, policy=policy, other=other)
            parts = [
                position for position in all_positions(question)
                if len(position) < len(question.marks()) and hand_at(question, len(position)) == hand
                and does_follow(question, hand, policy, position) and does_follow(question, hand, other, position)
                and tells(question, policy[names_of(question)[len(position)]], position)
                != tells(question, other[names_of(question)[len(position)]], position)
            ]
            self.assertTrue(same(part, min(parts, default=None)))
            one, two = plays_of(question, hand, policy), plays_of(question, hand, other)
            self.assertEqual(part is None, one == two)
            if part is None:
                alike += 1
                for position in all_positions(question):
                    if does_follow(question, hand, policy, position):
                        self.assertEqual(policy_worth(question, hand, policy, position), policy_worth(question, hand, other, position))
        self.assertGreater(alike, 10)

    def test_bare(self):
        for question, hand, policy, _ in cases(8, 40):
            bare = bare_policy(question=question, hand=hand, policy=as_tuples(policy))
            names = names_of(question)
            expected = {}
            for place, (name, by) in enumerate(question.marks()):
                if by == hand:
                    expected[name] = [
                        ([(names[at], truth) for at, truth in enumerate(position) if hand_at(question, at) != hand], True)
                        for position in all_positions(question, place)
                        if does_follow(question, hand, policy, position) and tells(question, policy[name], position)
                    ]
            self.assertTrue(same(bare, expected))
            self.assertIsNone(policies_part(question, hand, policy, bare))

    def test_thin(self):
        for question, hand, policy, other in cases(9, 40):
            policy = {name: policy[name] + other[name] for name in policy}
            thin = thin_policy(question=question, hand=hand, policy=as_lists(policy))
            expected = {}
            for place, (name, by) in enumerate(question.marks()):
                if by == hand:
                    used = set()
                    for position in all_positions(question, place):
                        if does_follow(question, hand, policy, position):
                            fits = [
                                index for index, (literals, _) in enumerate(policy[name])
                                if all(position[names_of(question).index(mark)] == truth for mark, truth in literals)
                            ]
                            used.update(fits[:1])
                    expected[name] = [policy[name][index] for index in sorted(used)]
            self.assertTrue(same(thin, expected))
            self.assertIsNone(policies_part(question, hand, policy, thin))

    def test_told_in_the_marks_order(self):
        policy = {"c": [([("b", True), ("a", False)], True), ([("a", True), ("b", True)], False)], "a": []}
        self.assertTrue(same(thin_policy(WE_THEY, "we", policy), {"a": [], "c": [([("b", True), ("a", False)], True)]}))
        self.assertEqual(list(bare_policy(WE_THEY, "we", policy)), ["a", "c"])
        self.assertEqual(list(joined_policy(WE_THEY, "we", "b", policy, policy)), ["a", "c"])

    def test_joined(self):
        for question, hand, policy, other in cases(10, 40, least=1):
            for place, (mark, by) in enumerate(question.marks()):
                if by == hand:
                    with self.assertRaises(BadMark) as caught:
                        joined_policy(question, hand, mark, None, None)
                    self.assertIs(caught.exception.mark, mark)
                    continue
                joined = joined_policy(question=question, hand=hand, mark=mark, policy=policy, other=as_tuples(other))
                self.assertTrue(is_policy(question, hand, joined))
                for position in all_positions(question):
                    worth = value(question, position, *(joined if hand == side else None for side in ("we", "they")))
                    one = value(question, position, *(policy if hand == side else None for side in ("we", "they")))
                    two = value(question, position, *(other if hand == side else None for side in ("we", "they")))
                    if len(position) > place:
                        self.assertEqual(worth, two if position[place] else one)
        mark = ("b", False)
        told = joined_policy(
            WE_THEY, "we", "b", {"a": [([], True)], "c": [([("b", False), ("a", True)], True), ([("b", True)], True), ([("a", True)], False)]},
            {"a": [], "c": [([("a", False), ("b", True)], True), ([mark], True), ([], True)]},
        )
        self.assertTrue(same(told, {"a": [([], True)], "c": [
            ([mark, ("a", True)][0:1] + [("a", True)], True), ([("a", True), mark], False),
            ([("a", False), ("b", True)], True), ([("b", True)], True),
        ]}))

    def test_new_each_time(self):
        for tell in (
            lambda: thin_policy(WE_THEY, "we", POLICY), lambda: bare_policy(WE_THEY, "we", POLICY),
            lambda: joined_policy(WE_THEY, "we", "b", POLICY, POLICY), lambda: reply(WE_THEY, "we", POLICY),
            lambda: plays_of(WE_THEY, "we", POLICY), lambda: policies_part(WE_THEY, "we", POLICY, {"a": [([], True)], "c": []}),
        ):
            told, before = tell(), tell()
            spoil(told)
            self.assertTrue(same(tell(), before))

    def test_errors(self):
        asks = [
            lambda q, h, p, x: set_by(q, h, p, x), lambda q, h, p, x: follows(q, h, p, x), lambda q, h, p, x: plays_of(q, h, p),
            lambda q, h, p, x: policies_part(q, h, p, None), lambda q, h, p, x: bare_policy(q, h, p),
            lambda q, h, p, x: thin_policy(q, h, p), lambda q, h, p, x: policy_worth(q, h, p, x),
            lambda q, h, p, x: reply(q, h, p), lambda q, h, p, x: beaten_play(q, h, p),
        ]
        for ask in asks:
            for thing in any_objects():
                if not isinstance(thing, Question):
                    with self.assertRaises(BadQuestion) as caught:
                        ask(thing, None, None, None)
                    self.assertIs(caught.exception.question, thing)
                if thing not in ("we", "they"):
                    with self.assertRaises(BadHand) as caught:
                        ask(WE_THEY, thing, None, None)
                    self.assertIs(caught.exception.hand, thing)
                with self.assertRaises(BadPolicy) as caught:
                    ask(WE_THEY, "we", thing, None)
                self.assertIs(caught.exception.policy, thing)
        for thing in any_objects():
            with self.assertRaises(BadPolicy) as caught:
                policies_part(WE_THEY, "we", POLICY, thing)
            self.assertIs(caught.exception.policy, thing)
            for ask in (set_by, follows, policy_worth):
                if thing not in ([], (), [True]):
                    with self.assertRaises(BadPosition) as caught:
                        ask(WE_THEY, "we", POLICY, thing)
                    self.assertIs(caught.exception.position, thing)

    def test_errors_of_joined(self):
        for thing in any_objects():
            if not isinstance(thing, Question):
                with self.assertRaises(BadQuestion):
                    joined_policy(thing, None, None, None, None)
            if thing not in ("we", "they"):
                with self.assertRaises(BadHand):
                    joined_policy(WE_THEY, thing, None, None, None)
            with self.assertRaises(BadMark) as caught:
                joined_policy(WE_THEY, "we", thing, None, None)
            self.assertIs(caught.exception.mark, thing)
            with self.assertRaises(BadPolicy) as caught:
                joined_policy(WE_THEY, "we", "d", thing, None)
            self.assertIs(caught.exception.policy, thing)
            with self.assertRaises(BadPolicy) as caught:
                joined_policy(WE_THEY, "we", "d", POLICY, thing)
            self.assertIs(caught.exception.policy, thing)


class PolicyWorthTest(unittest.TestCase):
    def test_example(self):
        self.assertEqual(policy_worth(QUESTION, "we", {"a": [([], True)]}, []), (1, 1))
        self.assertEqual(policy_worth(QUESTION, "we", {"a": []}, []), (0, 1))

    def test_worths(self):
        for question, hand, policy, _ in cases(11, 40):
            source = random.Random(12)
            other = "they" if hand == "we" else "we"
            against = made_policy(source, question, other)
            answer = reply(question=question, hand=hand, policy=as_lists(policy))
            self.assertTrue(is_policy(question, other, answer))
            names = [name for name, by in question.marks() if by == other]
            self.assertEqual(list(answer), names)
            for position in all_positions(question):
                told = policy_worth(question=question, hand=hand, policy=policy, position=tuple(position))
                ours, theirs = (policy, None) if hand == "we" else (None, policy)
                self.assertEqual(told, pair(value(question, position, ours, theirs)))
                best = fraction(worth_of(question, position))
                self.assertTrue(fraction(told) <= best if hand == "we" else fraction(told) >= best)
                ours, theirs = (policy, against) if hand == "we" else (against, policy)
                both = both_worth(question=question, ours=ours, theirs=as_tuples(theirs), position=position)
                self.assertEqual(both, pair(value(question, position, ours, theirs)))
                ours, theirs = (policy, answer) if hand == "we" else (answer, policy)
                self.assertTrue(same(both_worth(question, ours, theirs, position), told))

    def test_beaten_play(self):
        beaten = 0
        for question, hand, policy, _ in cases(13, 60):
            play = beaten_play(question=question, hand=hand, policy=policy)
            plays = [play for play in plays_of(question, hand, policy) if won(question, play) != (hand == "we")]
            self.assertTrue(same(play, plays[0] if plays else None))
            sure = (1, 1) if hand == "we" else (0, 1)
            self.assertEqual(play is None, policy_worth(question, hand, policy, []) == sure)
            beaten += play is not None
        self.assertGreater(beaten, 10)

    def test_errors_of_both(self):
        for thing in any_objects():
            if not isinstance(thing, Question):
                with self.assertRaises(BadQuestion) as caught:
                    both_worth(thing, None, None, None)
                self.assertIs(caught.exception.question, thing)
            with self.assertRaises(BadPolicy) as caught:
                both_worth(WE_THEY, thing, thing, None)
            self.assertIs(caught.exception.policy, thing)
            with self.assertRaises(BadPolicy) as caught:
                both_worth(WE_THEY, POLICY, thing, None)
            self.assertIs(caught.exception.policy, thing)
            if thing not in ([], (), [True]):
                with self.assertRaises(BadPosition) as caught:
                    both_worth(WE_THEY, POLICY, {"b": []}, thing)
                self.assertIs(caught.exception.position, thing)

    def test_empty(self):
        none = Question([], [[]], [])
        self.assertEqual(plays_of(none, "we", {}), [[]])
        self.assertEqual(policy_worth(none, "they", {}, []), (0, 1))
        self.assertEqual(beaten_play(none, "we", {}), [])
        self.assertIsNone(beaten_play(none, "they", {}))
        self.assertIsNone(policies_part(none, "we", {}, {}))
        self.assertEqual(reply(none, "we", {}), {})

    def test_at_the_limits(self):
        source = random.Random(14)
        question = questions(15, 1, least=11, most=11, clauses=30, width=6)[0]
        for hand in ("we", "they"):
            policy = made_policy(source, question, hand, pairs=200)
            answer = reply(question, hand, policy)
            ours, theirs = (policy, answer) if hand == "we" else (answer, policy)
            self.assertEqual(both_worth(question, ours, theirs, []), policy_worth(question, hand, policy, []))
            self.assertIsNone(policies_part(question, hand, policy, bare_policy(question, hand, thin_policy(question, hand, policy))))


if __name__ == "__main__":
    unittest.main()
