import random
import unittest
from itertools import chain, combinations, permutations

from marksinturn import errors, refusals
from marksinturn.numberpapers import is_paper
from marksinturn.pickpapers import is_picks_paper, picks_paper
from marksinturn.picks import barring_picks, enough_picks, meeting_picks, picked_question, short_picks, thinned_pick
from marksinturn.questions import Question
from marksinturn.solving import reached
from tests.plain import any_objects, as_lists, as_tuples, fraction, made_question, raised, same, told_alike, value

WISHES = [[("y", True), ("x", False)], [("y", False), ("x", True)]]
QUESTION = Question([("y", "we"), ("x", "they")], WISHES, [])
DRAWN = Question([("y", "we"), ("x", (1, 2))], WISHES, [])
FAMILIES = ("wishes", "guards", "theirs", "chance")
GOALS = [(0, 1), (1, 1), (1, 2), (1, 3), (2, 3), (3, 4), (1, 1000)]


def many_of(question, family):
    if family in ("wishes", "guards"):
        return len(question.wishes() if family == "wishes" else question.guards())
    return sum((hand == "they") if family == "theirs" else not isinstance(hand, str) for _, hand in question.marks())


def lots(many):
    """All ascending lists of numbers below another one."""
    return [list(one) for one in chain.from_iterable(combinations(range(many), size) for size in range(many + 1))]


def picked(question, family, pick):
    """The picked question by the words of the document."""
    marks, wishes, guards = question.marks(), question.wishes(), question.guards()
    if family == "wishes":
        wishes = [one for at, one in enumerate(wishes) if at not in pick]
    elif family == "guards":
        guards = [one for at, one in enumerate(guards) if at in pick]
    else:
        at = -1
        for place, (name, hand) in enumerate(marks):
            if hand == "they" if family == "theirs" else not isinstance(hand, str):
                at += 1
                if at in pick:
                    marks[place] = (name, "we")
    return Question(marks, wishes, guards)


def values_of(question, family):
    return [(pick, value(picked(question, family, pick), [])) for pick in lots(many_of(question, family))]


def least_of(picks):
    return sorted(one for one in picks if not any(set(other) < set(one) for other in picks))


def greatest_of(picks):
    return sorted(one for one in picks if not any(set(other) > set(one) for other in picks))


def small(seed, many, **how):
    """Questions, families and goals of which all picks can be gone through."""
    source = random.Random(seed)
    for _ in range(many):
        question = made_question(source, source.randint(0, 5), clauses=source.randint(2, 6), width=2, **how)
        family = source.choice([one for one in FAMILIES if many_of(question, one) <= 5] or ["theirs"])
        yield source, question, family, source.choice(GOALS)


class PicksTest(unittest.TestCase):
    def test_example(self):
        wanted = {"wishes": ([[0], [1]], [[0, 1]], [[]]), "theirs": ([[0]], [[0]], [[]]), "guards": ([], [[]], [[]]), "chance": ([], [[]], [[]])}
        for family, (least, barring, short) in wanted.items():
            passed = {"question": QUESTION, "family": family, "goal": (1, 1)}
            self.assertTrue(same(told_alike(self, enough_picks, **passed), least))
            self.assertTrue(same(told_alike(self, barring_picks, **passed), barring))
            self.assertTrue(same(told_alike(self, short_picks, **passed), short))
            self.assertTrue(same(enough_picks(DRAWN, family, (1, 2)), [[]]))
            self.assertEqual((barring_picks(DRAWN, family, (1, 2)), short_picks(DRAWN, family, (1, 2))), ([], []))

    def test_picked(self):
        for source, question, family, _ in small(1800, 300):
            pick = source.choice(lots(many_of(question, family)))
            told = told_alike(self, picked_question, question=question, family=family, pick=pick)
            self.assertEqual(told, picked(question, family, pick))
        told = picked_question(Question([("a", (1, 3)), ("b", "they"), ("c", (1, 2))], [], []), "chance", [1])
        self.assertEqual(told.marks(), [("a", (1, 3)), ("b", "they"), ("c", "we")])

    def test_all_picks(self):
        found = set()
        for _, question, family, goal in small(1810, 220):
            values = values_of(question, family)
            for one, worth in values:
                self.assertTrue(all(worth <= other for more, other in values if set(one) <= set(more)))
            many = many_of(question, family)
            highs = [one for one, worth in values if worth >= fraction(goal)]
            lows = [one for one, worth in values if worth < fraction(goal)]
            passed = {"question": question, "family": family, "goal": goal}
            least = told_alike(self, enough_picks, **passed)
            greatest = told_alike(self, short_picks, **passed)
            barring = told_alike(self, barring_picks, **passed)
            self.assertTrue(same(least, least_of(highs)))
            self.assertTrue(same(greatest, greatest_of(lows)))
            bars = [one for one in lots(many) if all(set(low) & set(one) or low in lows for low in lots(many))]
            self.assertTrue(same(barring, least_of(bars)))
            self.assertEqual(barring, meeting_picks(least, many))
            self.assertEqual(least, meeting_picks(barring, many))
            self.assertEqual(greatest, sorted([at for at in range(many) if at not in one] for one in barring))
            for one, worth in values:
                has = any(set(other) <= set(one) for other in least)
                self.assertEqual(has, worth >= fraction(goal))
                self.assertNotEqual(has, any(not set(other) & set(one) for other in barring))
            found.add((family, min(len(least), 2), min(len(greatest), 2)))
        for family in FAMILIES:
            self.assertLessEqual({(family, 1, 0), (family, 1, 1)}, found)
            self.assertTrue(family == "wishes" or (family, 0, 1) in found)
        self.assertIn(("wishes", 2, 2), found)

    def test_thinned(self):
        ends = 0
        for source, question, family, goal in small(1820, 120):
            many = many_of(question, family)
            if many > 4:
                continue
            least = enough_picks(question, family, goal)
            orders = [list(one) for one in permutations(range(many))]
            told = [told_alike(self, thinned_pick, question=question, family=family, goal=goal, order=order) for order in source.sample(orders, min(3, len(orders)))]
            if not least:
                self.assertEqual(set(map(type, told)), {type(None)})
                continue
            self.assertTrue(all(one in least for one in told))
            every = [thinned_pick(question, family, goal, order) for order in orders]
            self.assertEqual(sorted(set(map(tuple, every))), sorted(map(tuple, least)))
            for one in least:
                order = [at for at in range(many) if at not in one] + one
                self.assertTrue(same(thinned_pick(question, family, goal, order), one))
            ends += len(least) > 1
        self.assertGreater(ends, 5)

    def test_at_the_limits(self):
        names = [f"m{at}" for at in range(5)]
        marks = [(f"x{name}", "they") for name in names] + [(name, "we") for name in names]
        # Each of ours is to be what one of theirs will not be, and is: of every two wishes one goes.
        wishes = [[(name, truth), (f"x{names[0]}", True)] for name in names[:4] for truth in (False, True)]
        question = Question(marks, wishes, [])
        told = enough_picks(question, "wishes", (1, 1))
        self.assertEqual(len(told), 16)
        self.assertEqual(short_picks(question, "wishes", (1, 1)), sorted([at for at in range(8) if at // 2 != pair] for pair in range(4)))
        self.assertEqual(barring_picks(question, "wishes", (1, 1)), [[2 * pair, 2 * pair + 1] for pair in range(4)])
        self.assertIs(is_picks_paper(question, "wishes", (1, 1), picks_paper(question, "wishes", (1, 1))), True)

    def test_errors(self):
        asks = [enough_picks, short_picks, barring_picks, picks_paper]
        for thing in any_objects():
            if not isinstance(thing, Question):
                raised(self, errors.BadQuestion, picked_question, thing, None, None, question=thing)
                raised(self, errors.BadQuestion, thinned_pick, thing, None, None, None, question=thing)
                raised(self, errors.BadQuestion, is_picks_paper, thing, None, None, None, question=thing)
                for ask in asks:
                    raised(self, errors.BadQuestion, ask, thing, None, None, question=thing)
            raised(self, refusals.BadFamily, picked_question, QUESTION, thing, None, family=thing)
            raised(self, refusals.BadFamily, thinned_pick, QUESTION, thing, None, None, family=thing)
            raised(self, refusals.BadFamily, is_picks_paper, QUESTION, thing, None, None, family=thing)
            for ask in asks:
                raised(self, refusals.BadFamily, ask, QUESTION, thing, None, family=thing)
            if as_tuples(thing) not in [(0, 1), (1, 1), (1, 3), (1, 2)]:
                for ask in asks:
                    raised(self, refusals.BadGoal, ask, QUESTION, "theirs", thing, goal=thing)
                raised(self, refusals.BadGoal, thinned_pick, QUESTION, "theirs", thing, None, goal=thing)
                raised(self, refusals.BadGoal, is_picks_paper, QUESTION, "theirs", thing, None, goal=thing)
            if as_tuples(thing) not in [(), (0,), (0, 1), (1,)]:
                raised(self, refusals.BadPick, picked_question, QUESTION, "wishes", thing, pick=thing)
            if as_tuples(thing) not in [(0, 1), (1, 0)]:
                raised(self, refusals.BadOrder, thinned_pick, QUESTION, "wishes", (1, 1), thing, order=thing)
        for pick in ([1, 0], [0, 0], [2], [-1], [True], [0, None], [[0]]):
            raised(self, refusals.BadPick, picked_question, QUESTION, "wishes", pick, pick=pick)
        for order in ([0], [0, 0], [0, 2], [True, 0], [0, 1, 1], [[0], [1]], [None, 0]):
            raised(self, refusals.BadOrder, thinned_pick, QUESTION, "wishes", (1, 1), order, order=order)
        for goal in [(2, 4), (3, 2), (1, 0), (True, 1), (1,)]:
            raised(self, refusals.BadGoal, enough_picks, QUESTION, "wishes", goal, goal=goal)


class MeetingTest(unittest.TestCase):
    def test_all(self):
        source = random.Random(1830)
        for _ in range(300):
            many = source.randint(0, 6)
            picks = [source.choice(lots(many)) for _ in range(source.randint(0, 5))]
            told = told_alike(self, meeting_picks, picks=picks, many=many)
            self.assertTrue(same(told, least_of([one for one in lots(many) if all(set(one) & set(pick) for pick in picks)])))
            for one in lots(many):
                # It has all of one of these, or none of one of those.
                self.assertNotEqual(any(set(other) <= set(one) for other in told), any(not set(pick) & set(one) for pick in picks))

    def test_edges(self):
        self.assertTrue(same(meeting_picks([], 0), [[]]))
        self.assertTrue(same(meeting_picks((), 7), [[]]))
        self.assertTrue(same(meeting_picks([[]], 3), []))
        self.assertTrue(same(meeting_picks([[0, 2], [], [1]], 3), []))
        self.assertTrue(same(meeting_picks([[0, 2], [0, 2]], 10 ** 30), [[0], [2]]))
        self.assertTrue(same(meeting_picks([[0, 10 ** 29]], 10 ** 30), [[0], [10 ** 29]]))
        every = meeting_picks([[2 * at, 2 * at + 1] for at in range(8)], 16)
        self.assertEqual(len(every), 256)
        self.assertEqual(meeting_picks(every, 16), [[2 * at, 2 * at + 1] for at in range(8)])

    def test_errors(self):
        for thing in any_objects():
            if type(thing) is not int or thing < 0:
                raised(self, refusals.BadMany, meeting_picks, None, thing, many=thing)
            if not isinstance(thing, (list, tuple)):
                raised(self, refusals.BadPicks, meeting_picks, thing, 2, index=0)
            if as_tuples(thing) not in [(), (0,), (0, 1), (1,)]:
                raised(self, refusals.BadPicks, meeting_picks, [[], [0], thing, None], 2, index=2)
        for pick in ([1, 0], [0, 0], [2], [-1], [True], [0, None]):
            raised(self, refusals.BadPicks, meeting_picks, [[0, 1], pick], 2, index=1)


def is_right(question, family, goal, thing):
    """Whether a pair of lists of pairs of a pick and something is a picks' paper, by the words of the document."""
    for kind, pairs in zip(("least", "most"), thing):
        for pick, paper in pairs:
            made = picked(question, family, pick)
            if not is_paper(made, paper) or not paper or paper[-1][0] != kind or list(paper[-1][2]):
                return False
            if (fraction(paper[-1][3]) >= fraction(goal)) != (kind == "least"):
                return False
    least, short = [[list(pick) for pick, _ in pairs] for pairs in thing]
    if least != sorted(least) or short != sorted(short):
        return False
    return (least, short) == (enough_picks(question, family, goal), short_picks(question, family, goal))


def spoilt(source, question, family, goal, thing):
    """A picks' paper with one thing otherwise."""
    lists = [list(pairs) for pairs in thing]
    pairs = source.choice(lists)
    what = source.randrange(6)
    picks = lots(many_of(question, family))
    if what == 0:
        pick = source.choice(picks)
        word, paper = reached(picked(question, family, pick), [], goal)
        lists[word == "missed"].append((pick, paper))
        lists = [sorted(lot, key=lambda one: list(one[0])) for lot in lists]
    elif what == 1 and pairs:
        del pairs[source.randrange(len(pairs))]
    elif what == 2 and pairs:
        pairs.append(source.choice(pairs))
    elif what == 3 and pairs:
        at = source.randrange(len(pairs))
        pairs[at] = (source.choice(picks), pairs[at][1])
    elif what == 4 and pairs:
        at = source.randrange(len(pairs))
        paper = list(pairs[at][1])
        kind, place, literals, told, how = paper[-1]
        paper[-1] = source.choice([("most", place, literals, told, how), (kind, place, literals, source.choice(GOALS), how)])
        pairs[at] = (pairs[at][0], source.choice([paper, paper[:-1], []]))
    else:
        pairs.reverse()
    return tuple(lists)


class PicksPaperTest(unittest.TestCase):
    def test_all(self):
        source = random.Random(1840)
        verdicts = {True: 0, False: 0}
        for _, question, family, goal in small(1841, 160):
            passed = {"question": question, "family": family, "goal": goal}
            told = told_alike(self, picks_paper, **passed)
            self.assertTrue(is_right(question, family, goal, told))
            self.assertTrue(same([[pick for pick, _ in pairs] for pairs in told], [enough_picks(**passed), short_picks(**passed)]))
            for shape in (as_lists, as_tuples):
                self.assertIs(is_picks_paper(question, family, goal, shape(told)), True)
            for _ in range(6):
                thing = spoilt(source, question, family, goal, told)
                verdict = is_picks_paper(question, family, goal, thing)
                self.assertIs(verdict, is_right(question, family, goal, thing))
                verdicts[verdict] += 1
        self.assertGreater(min(verdicts.values()), 50)

    def test_any_object(self):
        least, short = picks_paper(QUESTION, "wishes", (1, 1))
        wrong = [[least], [least, short, []], {0: least, 1: short}, [least, None], [[[0], [1]], short], [[([0],)], short], [least, [([], None)]]]
        wrong += [[[(pick, least[0][1]), least[1]], short] for pick in ([True], None, "0", [[0]], [0, 0], [5])]
        high, low = least[0][1], short[0][1]
        for paper in (high + [None], high + [("most", 2, [], (1, 1), ("any",))], high + [("least", 2, [], (0, 1), ("none",))], low, []):
            wrong.append([[([0], paper), least[1]], short])
        for paper in (low + [None], low + [("least", 2, [], (0, 1), ("none",))], low + [("most", 2, [], (1, 1), ("any",))], high, []):
            wrong.append([least, [([], paper)]])
        for thing in any_objects() + wrong:
            self.assertIs(is_picks_paper(question=QUESTION, family="wishes", goal=(1, 1), thing=thing), False)
        self.assertIs(is_picks_paper(QUESTION, "wishes", (1, 1), (least, short)), True)


if __name__ == "__main__":
    unittest.main()
