import random
import unittest
from fractions import Fraction
from itertools import product

from marksinturn import errors, refusals
from marksinturn.earliness import enough, later_worths, too_early, worth_moved
from marksinturn.numberpapers import is_paper
from marksinturn.questions import Question
from marksinturn.sightpapers import sight_fault, sight_paper
from marksinturn.solving import reached
from marksinturn.vectors import exchanged, moved, vector_of
from tests.plain import any_objects, as_lists, as_tuples, fraction, pair, questions, raised, same, told_alike, value
from tests.test_vectors import QUESTION, WISHES, C, X, Y, Z, others_of, ours_of

NUMBERS = [(0, 1), (1, 1), (1, 2), (1, 3), (2, 3), (3, 4), (1, 1000), (999, 1000)]


def all_vectors(question):
    others = len(others_of(question))
    return [list(one) for one in product(range(others + 1), repeat=len(ours_of(question)))]


def is_above(vector, other):
    return all(one >= less for one, less in zip(vector, other))


def values_of(question):
    return {tuple(vector): value(moved(question, vector), []) for vector in all_vectors(question)}


def least_of(vectors):
    return [one for one in vectors if not any(is_above(one, other) and other != one for other in vectors)]


def greatest_of(vectors):
    return [one for one in vectors if not any(is_above(other, one) and other != one for other in vectors)]


def small(seed, many, ours=3, others=3):
    """Questions of which all vectors can be gone through."""
    found = []
    for question in questions(seed, many, most=5, least=0):
        if len(ours_of(question)) <= ours and len(others_of(question)) <= others:
            found.append(question)
    return found


def alike(one, other, truth):
    """The clauses by which one mark is what another one is, or is not."""
    return [[(one, True), (other, not truth)], [(one, False), (other, truth)]]


def either(some, others):
    """The clauses of which all hold just if all of some do, or all of others."""
    found = [dict(one + two) for one in some for two in others]
    return [list(made.items()) for made, (one, two) in zip(found, product(some, others)) if all(dict(one).get(m, t) == t for m, t in two)]


def telling(source):
    """A question whose wishes ask of ours what others do, of one or the other of them."""
    ours, others = ["p", "q", "r"][:source.randint(1, 3)], ["s", "t", "v"][:source.randint(1, 3)]
    marks = [(name, "we") for name in ours] + [(name, source.choice(["they", "they", (1, 2), (2, 3)])) for name in others]
    source.shuffle(marks)
    wishes = []
    for _ in range(source.randint(1, 2)):
        one, two = [alike(source.choice(ours), source.choice(others), source.random() < 0.5) for _ in range(2)]
        wishes += source.choice([one, either(one, two)])
    return Question(marks, wishes, [])


def numbers_beside(source, values):
    """Values of some vectors, and numbers right beside them."""
    found = source.sample(NUMBERS, 2)
    for one in source.sample(sorted(set(values.values())), 1):
        found += [pair(other) for other in (one, one - Fraction(1, 997), one + Fraction(1, 997)) if 0 <= other <= 1]
    return found


class EnoughTest(unittest.TestCase):
    def test_example(self):
        self.assertTrue(same(told_alike(self, enough, question=QUESTION, number=(1, 1)), [[1, 0]]))
        self.assertTrue(same(told_alike(self, too_early, question=QUESTION, number=(1, 1)), [[0, 2]]))
        self.assertEqual(value(QUESTION, []), 1)

    def test_all_vectors(self):
        source = random.Random(1700)
        kinds = set()
        for question in small(1701, 220):
            question = source.choice([question, telling(source)])
            values = values_of(question)
            for number in numbers_beside(source, values):
                highs = [list(one) for one, worth in values.items() if worth >= fraction(number)]
                lows = [list(one) for one, worth in values.items() if worth < fraction(number)]
                least = told_alike(self, enough, question=question, number=number)
                greatest = told_alike(self, too_early, question=question, number=number)
                self.assertTrue(same(least, least_of(highs)))
                self.assertTrue(same(greatest, greatest_of(lows)))
                for vector in all_vectors(question):
                    above = any(is_above(vector, one) for one in least)
                    self.assertNotEqual(above, any(is_above(one, vector) for one in greatest))
                self.assertEqual(least, least_of([one for one in all_vectors(question) if not any(is_above(other, one) for other in greatest)]))
                kinds.add((min(len(least), 2), min(len(greatest), 2)))
        self.assertLessEqual({(0, 1), (1, 0), (1, 1), (2, 1), (1, 2), (2, 2)}, kinds)

    def test_edges(self):
        none = Question([X, C], WISHES[:0] + [[("x", True)]], [])
        self.assertEqual((enough(none, (1, 1)), too_early(none, (1, 1))), ([], [[]]))
        self.assertEqual((enough(none, (0, 1)), too_early(none, (0, 1))), ([[]], []))
        alone = Question([Y, Z], [[("y", True)], [("z", False)]], [])
        self.assertEqual((enough(alone, (1, 1)), too_early(alone, (1, 1))), ([[0, 0]], []))
        lost = Question([Y, X], [[]], [])
        self.assertEqual((enough(lost, (1, 1000)), too_early(lost, (1, 1000))), ([], [[1]]))
        empty = Question([], [], [])
        self.assertEqual((enough(empty, (1, 1)), too_early(empty, (1, 1))), ([[]], []))

    def test_at_the_limits(self):
        names = "abcdefghi"
        for ours, others in ((5, 2), (3, 4), (5, 4)):
            marks = [(name, "we") for name in names[:ours]] + [(name, "they") for name in names[ours:ours + others]]
            # Our k-th mark has to tell of their k-th one, as far as there are such.
            pairs = [(one[0], other[0]) for one, other in zip(marks[:ours], marks[ours:])]
            wishes = [[(one, truth), (other, not truth)] for one, other in pairs for truth in (False, True)]
            question = Question(marks, wishes, [])
            need = [at + 1 if at < others else 0 for at in range(ours)]
            self.assertEqual(enough(question, (1, 1)), [need])
            self.assertEqual(len(too_early(question, (1, 1))), min(ours, others))
            told = sight_paper(question, (1, 1))
            self.assertIsNone(sight_fault(question, (1, 1), told))

    def test_errors(self):
        for thing in any_objects():
            if not isinstance(thing, Question):
                for ask in (enough, too_early, sight_paper):
                    raised(self, errors.BadQuestion, ask, thing, None, question=thing)
                raised(self, errors.BadQuestion, sight_fault, thing, None, None, question=thing)
                raised(self, errors.BadQuestion, later_worths, thing, question=thing)
                raised(self, errors.BadQuestion, worth_moved, thing, None, question=thing)
            if thing not in [(0, 1), (1, 1), [1, 3]] and as_tuples(thing) not in [(1, 2)]:
                for ask in (enough, too_early, sight_paper):
                    raised(self, errors.BadNumber, ask, QUESTION, thing, number=thing)
                raised(self, errors.BadNumber, sight_fault, QUESTION, thing, [], number=thing)
        for number in [(2, 4), (2, 1), (0, 2), (-1, 2), (True, 1), (1, 0), (1,), (0, 0)]:
            raised(self, errors.BadNumber, enough, QUESTION, number, number=number)


class LaterTest(unittest.TestCase):
    def test_example(self):
        self.assertTrue(same(told_alike(self, later_worths, question=QUESTION), {"y": [(1, 1)], "z": [(1, 1)]}))
        first = Question([Y, X, C, Z], WISHES, [])
        self.assertTrue(same(told_alike(self, later_worths, question=first), {"y": [(0, 1), (1, 1), (1, 1)], "z": [(0, 1)]}))

    def test_by_their_words(self):
        source = random.Random(1710)
        rises = 0
        for question in small(1711, 200):
            question = source.choice([question, telling(source)])
            own, others = vector_of(question), len(others_of(question))
            told = told_alike(self, later_worths, question=question)
            wanted = {}
            for at, (mark, _) in enumerate(ours_of(question)):
                vectors = [own[:at] + [number] + own[at + 1:] for number in range(own[at], others + 1)]
                wanted[mark] = [pair(value(moved(question, vector), [])) for vector in vectors]
            self.assertTrue(same(told, wanted))
            for numbers in told.values():
                self.assertEqual(fraction(numbers[0]), value(question, []))
                self.assertEqual(numbers, sorted(numbers, key=fraction))
                rises += numbers[0] != numbers[-1]
        self.assertGreater(rises, 20)

    def test_worth_moved(self):
        for question in questions(1720, 150, most=5):
            for place in range(len(question.marks()) - 1):
                told = told_alike(self, worth_moved, question=question, place=place)
                self.assertTrue(same(told, (pair(value(question, [])), pair(value(exchanged(question, place), [])))))
        for thing in any_objects() + [3, 4]:
            if type(thing) is not int or not 0 <= thing <= 2:
                raised(self, errors.BadPlace, worth_moved, QUESTION, thing, place=thing)
        raised(self, errors.BadPlace, worth_moved, Question([X], [], []), 0, place=0)
        self.assertEqual(worth_moved(Question([Y, X], WISHES[:2], []), 0), ((0, 1), (1, 1)))


def shows(question, number, kind, one):
    """Whether the last row of a paper of what a vector leads to shows what is to be shown."""
    vector, paper = one
    if not is_paper(moved(question, vector), paper) or not paper:
        return False
    if paper[-1][0] != kind or list(paper[-1][2]):
        return False
    return (fraction(paper[-1][3]) >= fraction(number)) == (kind == "least")


def fault_by_words(question, number, thing):
    """What is wrong with a pair of lists of pairs of a vector and something."""
    for kind, pairs in zip(("least", "most"), thing):
        for index, one in enumerate(pairs):
            if not shows(question, number, kind, one):
                return (kind, index)
    lows, highs = [[list(one[0]) for one in pairs] for pairs in thing]
    for vector in all_vectors(question):
        if not any(is_above(vector, one) for one in lows) and not any(is_above(one, vector) for one in highs):
            return ("gap", vector)
    return None if (lows, highs) == (enough(question, number), too_early(question, number)) else ("order",)


def spoilt(source, question, number, thing):
    """A sight paper with one thing otherwise."""
    lists = [list(pairs) for pairs in thing]
    pairs = source.choice(lists)
    vectors = all_vectors(question)
    what = source.randrange(8)
    if what == 0 and lists[0] + lists[1]:
        pairs.insert(source.randint(0, len(pairs)), (source.choice(vectors), source.choice(lists[0] + lists[1])[1]))
    elif what == 1:
        vector = source.choice(vectors)
        word, paper = reached(moved(question, vector), [], number)
        lot = lists[word == "missed"]
        lot.insert(source.randint(0, len(lot)), (vector, paper))
    elif pairs and what == 2:
        del pairs[source.randrange(len(pairs))]
    elif pairs and what == 3:
        pairs.append(pairs[source.randrange(len(pairs))])
    elif pairs and what == 4:
        at = source.randrange(len(pairs))
        pairs[at] = (source.choice(vectors), pairs[at][1])
    elif pairs and what == 5:
        at = source.randrange(len(pairs))
        paper = list(pairs[at][1])
        kind, place, literals, told, how = paper[-1]
        paper[-1] = source.choice([
            ({"most": "least", "least": "most"}[kind], place, literals, told, how), (kind, place, literals, source.choice(NUMBERS), how),
            (kind, place, [source.choice([("x", True), (question.marks()[0][0], True)])], told, how), (kind, place, literals, told, ("any",)),
        ])
        pairs[at] = (pairs[at][0], source.choice([paper, paper[:-1], []]))
    elif what == 6:
        source.shuffle(pairs)
    else:
        lists.reverse()
    return tuple(lists)


class SightPaperTest(unittest.TestCase):
    def test_example(self):
        told = told_alike(self, sight_paper, question=QUESTION, number=(1, 1))
        self.assertEqual([[vector for vector, _ in pairs] for pairs in told], [[[1, 0]], [[0, 2]]])
        self.assertIsNone(told_alike(self, sight_fault, question=QUESTION, number=(1, 1), thing=told))

    def test_all(self):
        source = random.Random(1730)
        for question in small(1731, 120):
            question = source.choice([question, telling(source)])
            for number in numbers_beside(source, values_of(question)):
                told = told_alike(self, sight_paper, question=question, number=number)
                self.assertEqual([[vector for vector, _ in pairs] for pairs in told], [enough(question, number), too_early(question, number)])
                self.assertTrue(all(shows(question, number, "least", one) for one in told[0]))
                self.assertTrue(all(shows(question, number, "most", one) for one in told[1]))
                self.assertTrue(all(type(one) is tuple for pairs in told for one in pairs))
                for shape in (as_lists, as_tuples):
                    self.assertIsNone(sight_fault(question, number, shape(told)))

    def test_with_one_thing_otherwise(self):
        source = random.Random(1740)
        words = {}
        for question in small(1741, 160):
            question = source.choice([question, telling(source), telling(source)])
            if not question.marks():
                continue
            number = source.choice(NUMBERS)
            told = sight_paper(question, number)
            for _ in range(12):
                thing = spoilt(source, question, number, spoilt(source, question, number, told) if source.random() < 0.3 else told)
                wanted = fault_by_words(question, number, thing)
                fault = told_alike(self, sight_fault, question=question, number=number, thing=thing)
                self.assertTrue(same(fault, wanted), (fault, wanted))
                words.setdefault(wanted and wanted[0], []).append(wanted)
        self.assertEqual(set(words), {None, "least", "most", "gap", "order"})
        self.assertTrue(all(len(found) > 20 for found in words.values()), {word: len(found) for word, found in words.items()})

    def test_form(self):
        least, most = sight_paper(QUESTION, (1, 1))
        wrong = [None, [], [least], [least, most, []], [least, None], {0: least, 1: most}, [[[1, 0]], most], [[([1, 0],)], most]]
        wrong += [[[(vector, least[0][1])], most] for vector in ([1], [1, 0, 0], [1, 3], [True, 0], None, 0, [1, -1], "ab")]
        wrong += [[least, [(vector, most[0][1], 0)]] for vector in ([0, 2], [1, 0])]
        for thing in any_objects() + wrong:
            fault = sight_fault(QUESTION, (1, 1), thing)
            self.assertTrue(same(fault, ("gap", [0, 0]) if as_tuples(thing) == ((), ()) else ("form",)), thing)
        (_, high), (_, low) = least[0], most[0]
        for paper in (high + [None], high + low[:1], high + [("most", 4, [], (1, 1), ("any",))], high + [("least", 4, [], (0, 1), ("none",))], low, high[:-1]):
            self.assertEqual(sight_fault(QUESTION, (1, 1), [[([1, 0], paper)], most]), ("least", 0))
        for paper in (low + [None], low + [("least", 4, [], (0, 1), ("none",))], low + [("most", 4, [], (1, 1), ("any",))], high, low[:-1]):
            self.assertEqual(sight_fault(QUESTION, (1, 1), [least, [([0, 2], paper)]]), ("most", 0))
        for paper in any_objects():
            self.assertEqual(sight_fault(QUESTION, (1, 1), [[([1, 0], paper)], most]), ("least", 0))
            self.assertEqual(sight_fault(QUESTION, (1, 1), [least, [most[0], ([0, 2], paper)]]), ("most", 1))
        self.assertEqual(sight_fault(QUESTION, (1, 1), ([], [])), ("gap", [0, 0]))
        self.assertEqual(sight_fault(QUESTION, (1, 1), (least, [])), ("gap", [0, 0]))
        self.assertEqual(sight_fault(QUESTION, (1, 1), ([], most)), ("gap", [1, 0]))
        self.assertEqual(sight_fault(QUESTION, (1, 1), (least + least, most)), ("order",))
        self.assertEqual(sight_fault(Question([], [], []), (1, 1), ([], [])), ("gap", []))

    def test_new_each_time(self):
        told = sight_paper(QUESTION, (1, 1))
        told[0][0][0].append(9)
        told[0][0][1][0][2].clear()
        self.assertIsNone(sight_fault(QUESTION, (1, 1), sight_paper(QUESTION, (1, 1))))


if __name__ == "__main__":
    unittest.main()
