import random
import unittest
from fractions import Fraction

from marksinturn import errors
from marksinturn.numberpapers import paper_fault
from marksinturn.questions import Question
from marksinturn.searches import Search
from marksinturn.solving import border, bounds_at, reached, solved
from marksinturn.worth import worth_of
from tests.plain import (
    all_positions, any_objects, as_lists, as_tuples, fraction, pair, questions, same, spoil, value,
)
from tests.plainrows import fault_by_words, made_paper, told

QUESTION = Question(
    [("a", "we"), ("b", (1, 3)), ("c", "they")],
    [[("a", True), ("b", False)], [("a", True), ("c", True)]],
    [[("c", False)]],
)


def bounds(question, paper, position):
    return (pair(told(question, paper, "least", position)), pair(told(question, paper, "most", position)))


def hard(seed, count, by_chance):
    """A question of wide wishes that say something until the last mark."""
    source = random.Random(seed)
    question = questions(seed, 1, least=count, most=count, clauses=30, width=6, guards=False)[0]
    wishes = [[(name, source.random() < 0.5) for name, _ in source.sample(question.marks(), 6)] for _ in range(30)]
    marks = [(name, (source.randint(1, 999), 1000) if by_chance else by) for name, by in question.marks()]
    return Question(marks, wishes, [])


class SolvingTest(unittest.TestCase):
    def test_example(self):
        self.assertEqual(solved(QUESTION, [])[0], (1, 1))
        self.assertEqual(solved(QUESTION, [False])[0], (0, 1))
        self.assertEqual(reached(QUESTION, [False], (1, 3))[0], "missed")

    def test_bounds_at(self):
        source = random.Random(70)
        for question in questions(71, 30):
            paper = made_paper(source, question)
            for position in all_positions(question):
                shape = as_lists(paper) if source.random() < 0.5 else as_tuples(paper)
                self.assertTrue(same(bounds_at(question=question, paper=shape, position=position), bounds(question, paper, position)))
        self.assertEqual(bounds_at(QUESTION, [], ()), ((0, 1), (1, 1)))

    def test_solved(self):
        for question in questions(72, 80):
            for position in all_positions(question):
                told_pair = solved(question=question, position=tuple(position))
                self.assertIs(type(told_pair), tuple)
                number, paper = told_pair
                self.assertIsNone(fault_by_words(question, paper))
                self.assertIsNone(paper_fault(question, paper))
                self.assertTrue(same(number, pair(value(question, position))))
                self.assertTrue(same(bounds(question, paper, position), (number, number)))
                self.assertTrue(same(solved(question, position), told_pair))

    def test_reached(self):
        words = set()
        for question in questions(73, 50):
            for position in all_positions(question):
                here = value(question, position)
                near = [here + Fraction(1, 1000), here - Fraction(1, 1000), Fraction(1, 3), Fraction(1), Fraction(0), here]
                for number in [one for one in near if 0 <= one <= 1]:
                    word, paper = reached(question=question, position=position, number=list(pair(number)))
                    words.add((word, number == here))
                    self.assertIsNone(fault_by_words(question, paper))
                    self.assertIs(type(paper), list)
                    low, high = bounds(question, paper, position)
                    if here >= number:
                        self.assertEqual((word, {row[0] for row in paper} - {"least"}), ("reached", set()))
                        self.assertGreaterEqual(fraction(low), number)
                    else:
                        self.assertEqual((word, {row[0] for row in paper} - {"most"}), ("missed", set()))
                        self.assertLess(fraction(high), number)
        self.assertEqual(words, {("reached", True), ("reached", False), ("missed", False)})

    def test_border(self):
        for question in questions(74, 40):
            for depth in range(len(question.marks()) + 1):
                values, paper = border(question=question, depth=depth)
                positions = all_positions(question, depth)
                self.assertTrue(same(values, {tuple(position): pair(value(question, position)) for position in positions}))
                self.assertIsNone(fault_by_words(question, paper))
                for position in positions:
                    number = values[tuple(position)]
                    self.assertEqual(bounds(question, paper, position), (number, number))

    def test_new_each_time(self):
        for tell in (lambda: solved(QUESTION, []), lambda: reached(QUESTION, [], (1, 2)), lambda: border(QUESTION, 2)):
            one, before = tell(), tell()
            spoil(one)
            self.assertTrue(same(tell(), before))

    def test_errors(self):
        for thing in any_objects():
            if not isinstance(thing, Question):
                for ask in (lambda q: bounds_at(q, None, None), lambda q: solved(q, None), lambda q: reached(q, None, None), lambda q: border(q, -1)):
                    with self.assertRaises(errors.BadQuestion) as caught:
                        ask(thing)
                    self.assertIs(caught.exception.question, thing)
            if thing not in ([], ()):
                with self.assertRaises(errors.BadPaper) as caught:
                    bounds_at(QUESTION, thing, None)
                self.assertEqual(caught.exception.index, 0)
            if thing not in ([], (), [True]):
                for ask in (lambda x: bounds_at(QUESTION, [], x), lambda x: solved(QUESTION, x), lambda x: reached(QUESTION, x, None)):
                    with self.assertRaises(errors.BadPosition) as caught:
                        ask(thing)
                    self.assertIs(caught.exception.position, thing)
            if thing not in ((1, 2), [1, 3], (0, 1), (1, 1)):
                with self.assertRaises(errors.BadNumber) as caught:
                    reached(QUESTION, [], thing)
                self.assertIs(caught.exception.number, thing)
            if type(thing) is not int or not 0 <= thing <= 3:
                with self.assertRaises(errors.BadDepth) as caught:
                    border(QUESTION, thing)
                self.assertIs(caught.exception.depth, thing)
        for number in [(2, 4), (3, 2), (0, 2), (0, 0), (1, 0), (True, 1), (-1, 2), (1, 2, 3)]:
            with self.assertRaises(errors.BadNumber):
                reached(QUESTION, [], number)
        for depth in (4, -1, True):
            with self.assertRaises(errors.BadDepth):
                border(QUESTION, depth)

    def test_at_the_limits(self):
        for by_chance in (False, True):
            question = hard(75, 12, by_chance)
            number, paper = solved(question, [])
            self.assertEqual(number, worth_of(question, []))
            self.assertIsNone(paper_fault(question, paper))
            self.assertEqual(bounds_at(question, paper, []), (number, number))
            values, paper = border(question, 6)
            self.assertIsNone(paper_fault(question, paper))
            for position, number in values.items():
                self.assertEqual(bounds_at(question, paper, position), (number, number))


class SearchTest(unittest.TestCase):
    def check_steps(self, question, positions):
        search = Search(question=question, positions=positions)
        self.assertTrue(same(search.found(), []))
        most = 2 ** (len(question.marks()) + 1) - 1
        steps = 0
        paper = []
        last = [((0, 1), (1, 1))] * len(positions)
        while True:
            self.assertTrue(same(search.meets(), last))
            meets = all(low == high for low, high in last)
            self.assertIs(search.is_done(), meets)
            if meets:
                break
            self.assertEqual(search.go(steps=1), 1)
            steps += 1
            self.assertLessEqual(steps, most)
            new = search.found()
            self.assertGreater(len(new), len(paper))
            self.assertTrue(same(new[:len(paper)], paper))
            self.assertIsNone(paper_fault(question, new))
            paper = new
            now = [bounds(question, paper, position) for position in positions]
            for (low, high), (low_then, high_then) in zip(now, last):
                self.assertGreaterEqual(fraction(low), fraction(low_then))
                self.assertLessEqual(fraction(high), fraction(high_then))
            last = now
        self.assertEqual(search.go(3), 0)
        self.assertTrue(same(search.found(), paper))
        self.assertEqual(last, [(pair(value(question, one)),) * 2 for one in positions])
        rows = [(row[0], row[1], tuple(row[2]), row[3]) for row in paper]
        self.assertEqual(len(rows), len(set(rows)))
        return steps, search

    def test_step_by_step(self):
        source = random.Random(80)
        for question in questions(81, 40):
            every = all_positions(question)
            for positions in ([], [[]], every, every[::-1], [source.choice(every) for _ in range(3)], [every[-1]] * 2):
                steps, search = self.check_steps(question, positions)
                other = Search(question, as_tuples(positions))
                self.assertEqual(other.go(0), 0)
                self.assertEqual(other == search, steps == 0)
                half = source.randint(0, steps)
                self.assertEqual(other.go(half), half)
                self.assertEqual(other.go(10 ** 30), steps - half)
                self.assertTrue(same(other.found(), search.found()))
                self.assertEqual(other, search)

    def test_chance_alone(self):
        one = Question([("a", (1, 3))], [[("a", True)]], [])
        self.check_steps(one, all_positions(one))
        self.check_steps(one, [[]])
        source = random.Random(88)
        for question in questions(89, 120, most=4, least=1, guards=False):
            marks = [(name, (1, 3) if source.random() < 0.8 else by) for name, by in question.marks()]
            question = Question(marks, question.wishes(), [])
            every = all_positions(question)
            source.shuffle(every)
            self.check_steps(question, every[:source.randint(1, len(every))])
            self.check_steps(question, every)
        for seed in range(82, 86):
            question = hard(seed, 6, True)
            question = Question(question.marks()[:5], [[one for one in wish if one[0] != "f"][:3] for wish in question.wishes()[:5]], [])
            self.check_steps(question, all_positions(question))

    def test_copy(self):
        question = questions(86, 1, least=4, most=4, clauses=9)[0]
        search = Search(question, all_positions(question))
        early = search.copy()
        self.assertEqual(early, search)
        search.go(2)
        self.assertNotEqual(early, search)
        self.assertEqual(early.found(), [])
        other = search.copy()
        self.assertEqual(other, search)
        before = other.found()
        search.go(10 ** 6)
        self.assertTrue(same(other.found(), before))
        self.assertFalse(other.is_done())
        other.go(10 ** 6)
        self.assertEqual(other, search)
        self.assertTrue(same(other.found(), search.found()))

    def test_equal(self):
        search = Search(QUESTION, [[], [True]])
        self.assertEqual(search, Search(QUESTION, ((), (True,))))
        self.assertNotEqual(search, Search(QUESTION, [[True], []]))
        self.assertNotEqual(search, Search(QUESTION, [[]]))
        self.assertNotEqual(search, Search(Question(QUESTION.marks(), [], []), [[], [True]]))
        for thing in any_objects():
            self.assertFalse(search == thing)

    def test_what_is_changed_later_has_no_effect(self):
        positions = [[], [True]]
        search = Search(QUESTION, positions)
        search.go(1)
        before, bounds_then = search.found(), search.meets()
        spoil(positions), spoil(search.found()), spoil(search.meets())
        self.assertTrue(same(search.found(), before))
        self.assertTrue(same(search.meets(), bounds_then))
        search.go(10 ** 6)
        self.assertEqual(len(search.meets()), 2)
        self.assertTrue(search.is_done())

    def test_errors(self):
        for thing in any_objects():
            if not isinstance(thing, Question):
                with self.assertRaises(errors.BadQuestion) as caught:
                    Search(thing, None)
                self.assertIs(caught.exception.question, thing)
            if not isinstance(thing, (list, tuple)):
                with self.assertRaises(errors.BadPositions) as caught:
                    Search(QUESTION, thing)
                self.assertEqual(caught.exception.index, 0)
            if thing not in ([], (), [True]):
                with self.assertRaises(errors.BadPositions) as caught:
                    Search(QUESTION, [[], (True, False), thing, None])
                self.assertEqual(caught.exception.index, 2)
            search = Search(QUESTION, [[]])
            if type(thing) is not int or thing < 0:
                with self.assertRaises(errors.BadSteps) as caught:
                    search.go(thing)
                self.assertIs(caught.exception.steps, thing)
                self.assertEqual(search.found(), [])

    def test_at_the_limits(self):
        question = hard(87, 12, True)
        every = all_positions(question)
        search = Search(question, every)
        self.assertEqual(search.go(100), 100)
        steps = search.go(2 ** 13)
        self.assertTrue(search.is_done())
        self.assertLessEqual(steps + 100, 2 ** 13 - 1)
        self.assertTrue(all(low == high for low, high in search.meets()))


if __name__ == "__main__":
    unittest.main()
