import random
import unittest

from marksinturn import errors, refusals
from marksinturn.questions import Question
from marksinturn.vectors import exchanged, moved, vector_of
from tests.plain import any_objects, questions, raised, same, told_alike, value

X, Y, C, Z = ("x", "they"), ("y", "we"), ("c", (1, 2)), ("z", "we")
WISHES = [[("x", True), ("y", True)], [("x", False), ("y", False)], [("c", True), ("z", True)]]
QUESTION = Question([X, C, Y, Z], WISHES, [])


def others_of(question):
    return [mark for mark in question.marks() if mark[1] != "we"]


def ours_of(question):
    return [mark for mark in question.marks() if mark[1] == "we"]


def same_clauses(one, other):
    """Whether two questions have the same clauses, but for orders of literals."""
    return all(
        [set(clause) for clause in lot] == [set(clause) for clause in others]
        for lot, others in [(one.wishes(), other.wishes()), (one.guards(), other.guards())]
    )


class VectorTest(unittest.TestCase):
    def test_example(self):
        self.assertTrue(same(told_alike(self, vector_of, question=QUESTION), [2, 2]))
        told = told_alike(self, moved, question=QUESTION, vector=[1, 0])
        self.assertEqual(told.marks(), [Z, X, Y, C])
        self.assertEqual(value(told, []), 1)
        self.assertEqual(moved(QUESTION, [0, 2]).marks(), [Y, X, C, Z])
        self.assertLess(value(moved(QUESTION, [0, 2]), []), 1)
        self.assertEqual(moved(QUESTION, [0, 0]).marks(), [Y, Z, X, C])

    def test_moved(self):
        source = random.Random(1600)
        for question in questions(1601, 300, most=6):
            own = told_alike(self, vector_of, question=question)
            marks, ours, others = question.marks(), ours_of(question), others_of(question)
            places = [marks.index(mark) for mark in ours]
            self.assertTrue(same(own, [sum(mark in others for mark in marks[:place]) for place in places]))
            self.assertEqual(moved(question, own), question)
            vector = [source.randint(0, len(others)) for _ in ours]
            told = told_alike(self, moved, question=question, vector=vector)
            self.assertEqual(others_of(told), others)
            names = [name for name, _ in told.marks()]
            self.assertEqual(sorted(told.marks(), key=str), sorted(marks, key=str))
            for mark, number in zip(ours, vector):
                ahead = told.marks()[:names.index(mark[0])]
                self.assertEqual(sum(other in others for other in ahead), number)
                for other, more in zip(ours, vector):
                    if other != mark and other in ahead:
                        self.assertTrue(more < number or (more == number and ours.index(other) < ours.index(mark)))
            self.assertTrue(same_clauses(told, question))
            self.assertTrue(same(told, Question(told.marks(), question.wishes(), question.guards())))

    def test_upward(self):
        source = random.Random(1610)
        rises = 0
        for question in questions(1611, 200, least=2, most=5, clauses=0):
            ours, others = ours_of(question), others_of(question)
            pairs = [(one[0], source.choice(others)[0]) for one in ours if others]
            wishes = [[(one, truth), (other, not truth)] for one, other in pairs for truth in (False, True)]
            question = Question(question.marks(), wishes, [])
            low = [source.randint(0, len(others)) for _ in ours]
            high = [source.randint(number, len(others)) for number in low]
            one, other = value(moved(question, low), []), value(moved(question, high), [])
            self.assertLessEqual(one, other)
            rises += one < other
        self.assertGreater(rises, 5)

    def test_errors(self):
        for thing in any_objects():
            if not isinstance(thing, Question):
                for ask in (vector_of, lambda q: moved(q, None), lambda q: exchanged(q, None)):
                    raised(self, errors.BadQuestion, ask, thing, question=thing)
            if not isinstance(thing, (list, tuple)):
                raised(self, refusals.BadVector, moved, QUESTION, thing, index=0)
            if type(thing) is not int or not 0 <= thing <= 2:
                raised(self, refusals.BadVector, moved, QUESTION, [0, thing], index=1)
                raised(self, refusals.BadVector, moved, QUESTION, [0, 1, 2, thing, None], index=3)
        for vector, index in [([], 2), ([1], 2), ([1, 1, 1], 2), ((0, 3), 1), ([-1, 3], 0), ([True, 0], 0), ([0, 1, 2, 3], 3)]:
            raised(self, refusals.BadVector, moved, QUESTION, vector, index=index)
        lone = Question([X], [], [])
        self.assertEqual(moved(lone, []), lone)
        raised(self, refusals.BadVector, moved, lone, [0], index=0)
        empty = Question([], [[]], [[]])
        self.assertEqual((vector_of(empty), moved(empty, ())), ([], empty))


class ExchangedTest(unittest.TestCase):
    def test_exchanged(self):
        for question in questions(1620, 250, most=5):
            marks = question.marks()
            for place in range(len(marks) - 1):
                told = told_alike(self, exchanged, question=question, place=place)
                self.assertEqual(told.marks(), marks[:place] + [marks[place + 1], marks[place]] + marks[place + 2:])
                self.assertTrue(same_clauses(told, question))
                self.assertEqual(exchanged(told, place), question)
                one, other = value(question, []), value(told, [])
                hand, behind = marks[place][1], marks[place + 1][1]
                if hand == behind or (not isinstance(hand, str) and not isinstance(behind, str)):
                    self.assertEqual(one, other)
                elif hand == "we" or behind == "they":
                    self.assertLessEqual(one, other)
                else:
                    self.assertGreaterEqual(one, other)

    def test_errors(self):
        for thing in any_objects() + [3, 4]:
            if type(thing) is not int or not 0 <= thing <= 2:
                raised(self, errors.BadPlace, exchanged, QUESTION, thing, place=thing)
        for question in (Question([], [], []), Question([X], [], [])):
            raised(self, errors.BadPlace, exchanged, question, 0, place=0)


if __name__ == "__main__":
    unittest.main()
