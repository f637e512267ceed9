import random
import unittest
from fractions import Fraction

from marksinturn import errors
from marksinturn.blundering import blunders, hints
from marksinturn.policies import is_policy, set_by
from marksinturn.papermerges import merged
from marksinturn.policyworths import policy_worth
from marksinturn.questions import Question
from marksinturn.readingoff import best_row, goes_by, read_move, read_policy, told_at
from marksinturn.solving import border, solved
from tests.plain import (
    all_plays, all_positions, any_objects, as_lists, as_tuples, fraction, hand_at, mean, names_of, pair, questions, same, spoil, value,
)
from tests.plainrows import best_number, made_paper, tells_of, told

QUESTION = Question([("x", "they"), ("y", "we")], [[("x", True), ("y", True)], [("x", False), ("y", False)]], [])
PAPER = [
    ("least", 2, [("x", True), ("y", False)], (1, 1), ("won",)),
    ("least", 2, [("x", False), ("y", True)], (1, 1), ("won",)),
    ("least", 1, [("x", True)], (1, 1), ("drop", 0)),
    ("least", 1, [("x", False)], (1, 1), ("drop", 1)),
    ("least", 0, [], (1, 1), ("join", 3, 2)),
]
LOST = ("most", 2, [("x", False), ("y", False)], (0, 1), ("lost",))


def papers(seed, many, **how):
    """Questions with papers made by chance, and with papers that settle much."""
    source = random.Random(seed)
    for question in questions(seed, many, **how):
        yield source, question, made_paper(source, question)
        yield source, question, border(question, source.randint(0, len(question.marks())))[1]
        yield source, question, solved(question, [])[1]
        yield source, question, settled_paper(question)


def settled_paper(question):
    """A paper whose bounds meet everywhere."""
    return merged(question, [border(question, depth)[1] for depth in range(len(question.marks()) + 1)])[0]


def best_by_words(question, paper, kind, position):
    """The index of the best row."""
    best = best_number(question, paper, kind, position)
    for index, row in enumerate(paper):
        if row[0] == kind and tells_of(question, row, position) and fraction(row[3]) == best:
            return index
    return None


def move_of_row(question, paper, index, place):
    """What the best row lets its hand set."""
    if index is None or paper[index][4][0] != "drop" or paper[index][1] != place:
        return False
    truths = dict(paper[paper[index][4][1]][2])
    mark = names_of(question)[place]
    if mark not in truths:
        return False
    return truths[mark] == (paper[index][0] == "least")


def move_by_words(question, paper, position):
    place = len(position)
    if place == len(question.marks()) or isinstance(hand_at(question, place), tuple):
        return None
    kind = "least" if hand_at(question, place) == "we" else "most"
    return move_of_row(question, paper, best_by_words(question, paper, kind, position), place)


def policy_by_words(question, paper, hand):
    kind = "least" if hand == "we" else "most"
    rows = [(fraction(row[3]) * (1 if hand == "they" else -1), index) for index, row in enumerate(paper) if row[0] == kind]
    policy = {}
    for place, (name, by) in enumerate(question.marks()):
        if by != hand:
            continue
        pairs = []
        for _, index in sorted(rows):
            row = paper[index]
            if row[1] < place or any(names_of(question).index(mark) >= place for mark, _ in row[2]):
                continue
            literals = [(mark, truth == (hand == "we")) for mark, truth in row[2]]
            if any(literals == one for one, _ in pairs):
                continue
            pairs.append((literals, move_of_row(question, paper, index, place)))
            if not literals:
                break
        policy[name] = pairs
    return policy


class ReadingOffTest(unittest.TestCase):
    def test_example(self):
        self.assertEqual(PAPER[2][1:3], (1, [("x", True)]))
        self.assertTrue(same(read_policy(QUESTION, PAPER, "we"), {"y": [([("x", True)], False), ([("x", False)], True)]}))
        self.assertEqual(blunders(QUESTION, PAPER, [True, True]), [])
        paper = [("most", 2, [("x", False), ("y", False)], (0, 1), ("lost",))]
        self.assertEqual(blunders(QUESTION, paper + as_lists([]), [True, True]), [])
        self.assertTrue(same(blunders(QUESTION, PAPER + [LOST], [True, True]), [(1, (1, 1), (0, 1))]))
        self.assertEqual(hints(QUESTION, PAPER, [True]), [False])

    def test_by_their_words(self):
        for source, question, paper in papers(60, 25):
            for position in all_positions(question):
                for kind in ("most", "least"):
                    index = best_row(question=question, paper=as_tuples(paper), kind=kind, position=position)
                    self.assertEqual(index, best_by_words(question, paper, kind, position))
                    number = told_at(question=question, paper=paper, kind=kind, position=tuple(position))
                    self.assertTrue(same(number, pair(told(question, paper, kind, position))))
                move = read_move(question=question, paper=paper, position=position)
                self.assertIs(move, move_by_words(question, paper, position))
            for hand in ("we", "they"):
                policy = read_policy(question=question, paper=as_lists(paper), hand=hand)
                self.assertTrue(same(policy, policy_by_words(question, paper, hand)))
                for play in all_plays(question):
                    by = all(
                        move_by_words(question, paper, play[:place]) == truth
                        for place, truth in enumerate(play) if hand_at(question, place) == hand
                    )
                    self.assertIs(goes_by(question=question, paper=paper, hand=hand, play=play), by)

    def test_the_policy_sets_what_is_read(self):
        for _, question, paper in papers(61, 25):
            for hand in ("we", "they"):
                policy = read_policy(question, paper, hand)
                self.assertTrue(is_policy(question, hand, policy))
                for position in all_positions(question):
                    if len(position) < len(question.marks()) and hand_at(question, len(position)) == hand:
                        self.assertIs(set_by(question, hand, policy, position), read_move(question, paper, position))

    def test_what_it_is_worth(self):
        for _, question, paper in papers(62, 25):
            ours, theirs = read_policy(question, paper, "we"), read_policy(question, paper, "they")
            for position in all_positions(question):
                low, high = told(question, paper, "least", position), told(question, paper, "most", position)
                here = value(question, position)
                self.assertTrue(low <= fraction(policy_worth(question, "we", ours, position)) <= here)
                self.assertTrue(high >= fraction(policy_worth(question, "they", theirs, position)) >= here)
                if len(position) < len(question.marks()):
                    self.check_steps(question, paper, ours, position)
            if told(question, paper, "least", []) == told(question, paper, "most", []):
                self.assertEqual(fraction(policy_worth(question, "we", ours, [])), value(question, []))
                self.assertEqual(fraction(policy_worth(question, "they", theirs, [])), value(question, []))

    def check_steps(self, question, paper, ours, position):
        low = told(question, paper, "least", position)
        sides = [told(question, paper, "least", position + [truth]) for truth in (False, True)]
        hand = hand_at(question, len(position))
        if hand == "we":
            self.assertLessEqual(low, sides[set_by(question, "we", ours, position)])
        elif hand == "they":
            self.assertLessEqual(low, min(sides))
        else:
            self.assertLessEqual(low, mean(hand, *sides))

    def test_more_rows_never_tell_less(self):
        for source, question, paper in papers(63, 15):
            for position in all_positions(question):
                end = source.randint(0, len(paper))
                self.assertLessEqual(told(question, paper[:end], "least", position), fraction(told_at(question, paper, "least", position)))
                self.assertGreaterEqual(told(question, paper[:end], "most", position), fraction(told_at(question, paper, "most", position)))

    def test_edges(self):
        none = Question([], [[]], [])
        self.assertIsNone(best_row(none, [], "most", []))
        self.assertEqual((told_at(none, [], "most", []), told_at(none, [], "least", [])), ((1, 1), (0, 1)))
        self.assertIsNone(read_move(none, [], []))
        self.assertEqual(read_policy(none, [], "we"), {})
        self.assertTrue(goes_by(none, [], "they", []))
        self.assertEqual((blunders(none, [], []), hints(none, [], [])), ([], []))
        self.assertEqual(read_policy(QUESTION, [], "we"), {"y": []})
        doubled = PAPER[:1] + PAPER[:1] + [("least", 1, [("x", True)], (1, 1), ("drop", 1))]
        self.assertEqual(best_row(QUESTION, doubled, "least", [True, False]), 0)
        self.assertEqual(read_policy(QUESTION, doubled, "we"), {"y": [([("x", True)], False)]})

    def test_new_each_time(self):
        for tell in (
            lambda: read_policy(QUESTION, PAPER, "we"), lambda: blunders(QUESTION, PAPER + [LOST], [True, True]),
            lambda: hints(QUESTION, PAPER, [True]),
        ):
            one, before = tell(), tell()
            spoil(one)
            self.assertTrue(same(tell(), before))

    def test_errors(self):
        asks = [
            lambda q, p, k, x: best_row(q, p, k, x), lambda q, p, k, x: told_at(q, p, k, x), lambda q, p, k, x: read_move(q, p, x),
            lambda q, p, k, x: goes_by(q, p, k, x), lambda q, p, k, x: read_policy(q, p, k), lambda q, p, k, x: blunders(q, p, x),
            lambda q, p, k, x: hints(q, p, x),
        ]
        for thing in any_objects():
            for ask in asks:
                if not isinstance(thing, Question):
                    with self.assertRaises(errors.BadQuestion) as caught:
                        ask(thing, None, None, None)
                    self.assertIs(caught.exception.question, thing)
                if thing not in ([], ()):
                    with self.assertRaises(errors.BadPaper) as caught:
                        ask(QUESTION, thing, None, None)
                    self.assertEqual(caught.exception.index, 0)
            if thing not in ("most", "least"):
                for ask in (best_row, told_at):
                    with self.assertRaises(errors.BadKind) as caught:
                        ask(QUESTION, PAPER, thing, None)
                    self.assertIs(caught.exception.kind, thing)
            if thing not in ("we", "they"):
                for ask in (lambda h: goes_by(QUESTION, PAPER, h, None), lambda h: read_policy(QUESTION, PAPER, h)):
                    with self.assertRaises(errors.BadHand) as caught:
                        ask(thing)
                    self.assertIs(caught.exception.hand, thing)
            if thing not in ([], (), [True]):
                for ask in (lambda x: best_row(QUESTION, PAPER, "most", x), lambda x: told_at(QUESTION, PAPER, "most", x),
                            lambda x: read_move(QUESTION, PAPER, x), lambda x: hints(QUESTION, PAPER, x)):
                    with self.assertRaises(errors.BadPosition) as caught:
                        ask(thing)
                    self.assertIs(caught.exception.position, thing)
            for ask in (lambda x: goes_by(QUESTION, PAPER, "we", x), lambda x: blunders(QUESTION, PAPER, x)):
                with self.assertRaises(errors.BadPlay) as caught:
                    ask(thing)
                self.assertIs(caught.exception.play, thing)
        with self.assertRaises(errors.BadPaper) as caught:
            hints(QUESTION, PAPER[:4] + [PAPER[4][:4]], None)
        self.assertEqual(caught.exception.index, 4)


class BlunderTest(unittest.TestCase):
    def test_blunders(self):
        seen = 0
        for _, question, paper in papers(64, 25):
            for play in all_plays(question):
                expected = []
                for place, (_, hand) in enumerate(question.marks()):
                    ahead, behind = play[:place], play[:place + 1]
                    if hand == "we":
                        low, high = told(question, paper, "least", ahead), told(question, paper, "most", behind)
                        if high < low:
                            expected.append((place, pair(low), pair(high)))
                            self.assertLess(value(question, behind), value(question, ahead))
                    elif hand == "they":
                        high, low = told(question, paper, "most", ahead), told(question, paper, "least", behind)
                        if low > high:
                            expected.append((place, pair(high), pair(low)))
                            self.assertGreater(value(question, behind), value(question, ahead))
                self.assertTrue(same(blunders(question=question, paper=as_lists(paper), play=tuple(play)), expected))
                seen += len(expected)
        self.assertGreater(seen, 20)

    def test_all_are_told_where_all_is_settled(self):
        for question in questions(65, 20):
            paper = settled_paper(question)
            for play in all_plays(question):
                wrong = [
                    place for place, (_, hand) in enumerate(question.marks())
                    if isinstance(hand, str) and value(question, play[:place + 1]) != value(question, play[:place])
                ]
                self.assertEqual([place for place, _, _ in blunders(question, paper, play)], wrong)
            for position in all_positions(question):
                if len(position) < len(question.marks()) and isinstance(hand_at(question, len(position)), str):
                    self.assertIn(read_move(question, paper, position), hints(question, paper, position))

    def test_at_the_limits(self):
        question = questions(67, 1, least=12, most=12, clauses=30, width=6, guards=False)[0]
        paper = merged(question, [border(question, depth)[1] for depth in range(7)])[0]
        for play in ([True] * 12, [False] * 12, [True, False] * 6):
            self.assertTrue(all(place >= 0 for place, _, _ in blunders(question, paper, play)))
            for hand in ("we", "they"):
                self.assertIs(type(goes_by(question, paper, hand, play)), bool)
        best = fraction(told_at(question, paper, "least", []))
        ours = read_policy(question, paper, "we")
        self.assertEqual(fraction(policy_worth(question, "we", ours, [])), best)

    def test_hints(self):
        for _, question, paper in papers(66, 25):
            for position in all_positions(question):
                expected = []
                place = len(position)
                if place < len(question.marks()) and isinstance(hand_at(question, place), str):
                    for truth in (False, True):
                        if hand_at(question, place) == "we":
                            safe = told(question, paper, "least", position + [truth]) >= told(question, paper, "most", position)
                        else:
                            safe = told(question, paper, "most", position + [truth]) <= told(question, paper, "least", position)
                        if safe:
                            expected.append(truth)
                            self.assertEqual(value(question, position + [truth]), value(question, position))
                self.assertTrue(same(hints(question=question, paper=paper, position=tuple(position)), expected))


if __name__ == "__main__":
    unittest.main()
