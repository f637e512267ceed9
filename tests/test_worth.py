import unittest

from marksinturn.errors import BadPlace, BadPosition, BadQuestion, NoneSets
from marksinturn.questions import Question
from marksinturn.worth import rest_of, rests, right_truths, worth_of, worths
from tests.plain import (
    all_positions, any_objects, fraction, hand_at, names_of, pair, questions, same, spoil, value,
)

EXAMPLE = Question(
    [("b", (1, 3)), ("a", "we"), ("c", "they")],
    [[("a", True), ("b", True)], [("a", False), ("b", False), ("c", True)]],
    [],
)


def rest_by_words(question, position):
    """What rest_of tells, by its words."""
    truths = dict(zip(names_of(question), position))

    def left(clauses):
        kept = []
        for clause in clauses:
            if any(truths.get(mark) is truth for mark, truth in clause):
                continue
            clause = [literal for literal in clause if literal[0] not in truths]
            if clause not in kept:
                kept.append(clause)
        return kept

    marks = question.marks()[len(position):]
    for guard in question.guards():
        if all(truths.get(mark) is (not truth) for mark, truth in guard):
            return Question(marks, [], [])
    return Question(marks, left(question.wishes()), left(question.guards()))


class WorthTest(unittest.TestCase):
    def test_example(self):
        self.assertEqual(right_truths(EXAMPLE, [True]), [False])
        rest = rest_of(EXAMPLE, [True])
        self.assertEqual(rest, Question([("a", "we"), ("c", "they")], [[("a", False), ("c", True)]], []))

    def test_values(self):
        for question in questions(20, 60):
            table = {tuple(position): pair(value(question, position)) for position in all_positions(question)}
            told = worths(question=question)
            self.assertTrue(same(told, dict(sorted(table.items(), key=lambda item: (len(item[0]), item[0])))))
            for position in all_positions(question):
                self.assertTrue(same(worth_of(question=question, position=position), table[tuple(position)]))
                self.assertEqual(worth_of(question, tuple(position)), table[tuple(position)])

    def test_right_truths(self):
        for question in questions(21, 40):
            for position in all_positions(question):
                if len(position) == len(question.marks()):
                    with self.assertRaises(NoneSets) as caught:
                        right_truths(question, position)
                    self.assertIs(caught.exception.position, position)
                    continue
                told = right_truths(question=question, position=tuple(position))
                if isinstance(hand_at(question, len(position)), tuple):
                    self.assertEqual(told, [False, True])
                else:
                    best = value(question, position)
                    self.assertEqual(told, [x for x in (False, True) if value(question, position + [x]) == best])

    def test_rests(self):
        for question in questions(22, 60):
            for position in all_positions(question):
                rest = rest_of(question=question, position=tuple(position))
                self.assertEqual(rest, rest_by_words(question, position))
                self.assertEqual(worth_of(rest, []), worth_of(question, position))
            for place in range(len(question.marks()) + 1):
                kept = []
                for position in all_positions(question, place):
                    rest = (rest_by_words(question, position), worth_of(question, position))
                    if rest not in kept:
                        kept.append(rest)
                self.assertTrue(same(rests(question=question, place=place), kept))

    def test_rests_edges(self):
        marks = [("a", "we"), ("b", "they")]
        question = Question(marks, [[], [("a", True), ("b", True)], [("b", True)]], [[("a", True)]])
        self.assertEqual(rest_of(question, []), question)
        self.assertEqual(rest_of(question, [False]), Question([("b", "they")], [], []))
        self.assertEqual(rest_of(question, [True]), Question([("b", "they")], [[], [("b", True)]], []))
        self.assertEqual(rest_of(question, [True, True]), Question([], [[]], []))
        doubled = Question(marks, [[("b", True)], [("a", False), ("b", True)]], [[("b", False)], [("b", False)]])
        self.assertEqual(rest_of(doubled, [True]), Question([("b", "they")], [[("b", True)]], [[("b", False)]]))
        self.assertEqual(rests(Question([], [], []), 0), [(Question([], [], []), (1, 1))])

    def test_chance(self):
        question = Question([("a", (2, 4)), ("b", (999, 1000))], [[("a", True)], [("b", True)]], [])
        self.assertEqual(worth_of(question, []), (999, 2000))
        self.assertEqual(worth_of(question, [True]), (999, 1000))
        self.assertEqual(worth_of(question, [False]), (0, 1))

    def test_new_each_time(self):
        for tell in (lambda: worths(EXAMPLE), lambda: right_truths(EXAMPLE, []), lambda: rests(EXAMPLE, 1)):
            told, before = tell(), tell()
            spoil(told)
            self.assertTrue(same(tell(), before))

    def test_errors(self):
        for ask in (worth_of, right_truths, rest_of):
            for thing in any_objects():
                if not isinstance(thing, Question):
                    with self.assertRaises(BadQuestion) as caught:
                        ask(thing, 1)
                    self.assertIs(caught.exception.question, thing)
                if thing not in ([], (), [True]):
                    with self.assertRaises(BadPosition) as caught:
                        ask(EXAMPLE, thing)
                    self.assertIs(caught.exception.position, thing)
        for thing in any_objects():
            if not isinstance(thing, Question):
                with self.assertRaises(BadQuestion):
                    worths(thing)
                with self.assertRaises(BadQuestion):
                    rests(thing, -1)
            if isinstance(thing, bool) or thing not in (0, 1, 2):
                with self.assertRaises(BadPlace) as caught:
                    rests(EXAMPLE, thing)
                self.assertIs(caught.exception.place, thing)
        for thing in (4, -1, True):
            with self.assertRaises(BadPlace):
                rests(EXAMPLE, thing)
        self.assertEqual(len(rests(EXAMPLE, 3)), 2)

    def test_at_the_limits(self):
        question = questions(23, 1, least=10, most=10, clauses=30, width=6)[0]
        table = worths(question)
        self.assertEqual(len(table), 2 ** 11 - 1)
        for place in range(11):
            for rest, number in rests(question, place)[:20]:
                self.assertEqual(worth_of(rest, []), number)
        self.assertTrue(all(0 <= fraction(number) <= 1 for number in table.values()))


if __name__ == "__main__":
    unittest.main()
