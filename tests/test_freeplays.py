import random
import unittest

from marksinturn import errors
from marksinturn.freeplaces import freed, placed
from marksinturn.freeplays import first_policy, first_truth
from marksinturn.freerows import found_free, free_fault
from marksinturn.numberpapers import is_paper
from marksinturn.papermerges import hangs_on, merged
from marksinturn.policies import is_policy
from marksinturn.policyworths import beaten_play
from marksinturn.questions import Question
from marksinturn.solving import border
from marksinturn.surerows import sure_fault, sure_rows
from tests.plain import (
    all_positions, any_objects, does_follow, hand_at, made_question, names_of, questions, raised, same, tells, told_alike, value, won,
)
from tests.plainrows import fault_by_words, made_paper, start_literals
from tests.test_freerows import CHANCE, LOST, NOT_X, NOT_Y, OTHER, QUESTION, WON, X, Y, why_not_free

HANDS = {"lost": "they", "won": "we"}


def made_free(source, question, kind, tries=50):
    """Free rows made by chance, each right by those ahead of it."""
    names = names_of(question)
    paper = []
    for _ in range(tries):
        if source.random() < 0.4 or not paper:
            row = (kind, [(name, source.random() < 0.5) for name in names if source.random() < 0.8], ("start",))
        elif source.random() < 0.6:
            at = source.randrange(len(paper))
            row = (kind, paper[at][1][:-1], ("drop", at))
        else:
            one, two = source.randrange(len(paper)), source.randrange(len(paper))
            both = dict(paper[one][1] + paper[two][1])
            unlike = [mark for mark, truth in paper[one][1] if (mark, not truth) in paper[two][1]]
            row = (kind, [(name, both[name]) for name in names if name in both and name not in unlike], ("join", one, two))
        if why_not_free(question, paper, row) is None:
            paper.append(row)
    return paper


def free_papers(seed, many, most=4):
    """Pairs of a question and a free paper: found ones, ones with rows more, ones that are cut, ones made by chance."""
    source = random.Random(seed)
    for question in questions(seed, many, most=most, chance=False):
        found = found_free(question)
        yield question, found
        if len(found) > 1:
            yield question, found[:source.randrange(1, len(found))]
        made = made_free(source, question, found[0][0])
        if made:
            yield question, made
            led = [tuple(i + len(made) if type(i) is int else i for i in how) for _, _, how in found]
            yield question, made + [(kind, literals, how) for (kind, literals, _), how in zip(found, led)]


def speaks(question, free, row, position):
    truths = dict(zip(names_of(question), position))
    return all(mark in truths and (truths[mark] == side) == (free[0][0] == "won") for mark, side in row[1])


def first_by_words(question, free, position):
    name = names_of(question)[len(position)]
    for row in free:
        if row[2][0] == "drop" and free[row[2][1]][1][-1][0] == name and speaks(question, free, row, position):
            return free[row[2][1]][1][-1][1] == (free[0][0] == "won")
    return False


class FirstTest(unittest.TestCase):
    def test_example(self):
        policy = told_alike(self, first_policy, question=QUESTION, free=WON)
        self.assertTrue(same(policy, {"y": [([NOT_X], True), ([X], False)]}))
        self.assertTrue(same(first_policy(OTHER, LOST), {"x": [([NOT_Y], False), ([Y], True)]}))
        self.assertIs(told_alike(self, first_truth, question=QUESTION, free=WON, position=[False]), True)
        self.assertIs(first_truth(QUESTION, WON, [True]), False)
        self.assertIs(first_truth(OTHER, LOST, [True]), True)
        self.assertIs(first_truth(QUESTION, WON[:1], [False]), False)
        self.assertEqual(first_policy(QUESTION, WON[2:3]), {"y": []})

    def test_by_their_words(self):
        seen = {"lost": 0, "won": 0}
        for question, free in free_papers(900, 120):
            hand = HANDS[free[0][0]]
            policy = first_policy(question, free)
            self.assertTrue(is_policy(question, hand, policy))
            names = names_of(question)
            self.assertEqual(list(policy), [name for name, by in question.marks() if by == hand])
            for name in policy:
                pairs = []
                for _, literals, how in free:
                    if how[0] == "drop" and free[how[1]][1][-1][0] == name:
                        turned = [(mark, truth == (free[0][0] == "won")) for mark, truth in literals]
                        pairs.append((turned, free[how[1]][1][-1][1] == (free[0][0] == "won")))
                self.assertTrue(same(policy[name], pairs))
            for position in all_positions(question):
                if len(position) < len(names) and hand_at(question, len(position)) == hand:
                    told = first_truth(question, free, position)
                    self.assertIs(told, first_by_words(question, free, position))
                    self.assertIs(told, tells(question, policy[names[len(position)]], position))
                else:
                    raised(self, errors.BadPosition, first_truth, question, free, position, position=position)
            if any(not row[1] for row in free):
                seen[free[0][0]] += len(free) > 2
                for play in all_positions(question, len(names)):
                    if does_follow(question, hand, policy, play):
                        self.assertIs(won(question, play), hand == "we")
        self.assertGreater(min(seen.values()), 20)

    def test_a_blunder_of_its_own(self):
        """Behind one free rows say nothing, so whatever they tell is told by the rows that are there."""
        question = Question([("x", "we"), ("y", "we")], [[X], [Y]], [])
        free = [("won", [X, Y], ("start",)), ("won", [X], ("drop", 0)), ("won", [], ("drop", 1))]
        self.assertIs(first_truth(question, free, []), True)
        self.assertIs(first_truth(question, free, [True]), True)
        self.assertIs(first_truth(question, free, [False]), False)

    def test_errors(self):
        for thing in any_objects():
            if not isinstance(thing, Question):
                for ask in (lambda q: first_truth(q, None, None), lambda q: first_policy(q, None)):
                    raised(self, errors.BadQuestion, ask, thing, question=thing)
            if thing != [("lost", [], ("start",))]:
                raised(self, errors.BadFree, first_truth, QUESTION, thing, None, index=0)
                raised(self, errors.BadFree, first_policy, QUESTION, thing, index=0)
            if thing not in ([True], (True,), [False]):
                raised(self, errors.BadPosition, first_truth, QUESTION, WON, thing, position=thing)
        for ask in (lambda q: first_truth(q, None, None), lambda q: first_policy(q, None)):
            raised(self, errors.HasChance, ask, CHANCE, question=CHANCE)
        for position in ([], [True, True]):
            raised(self, errors.BadPosition, first_truth, QUESTION, WON, position, position=position)
        raised(self, errors.BadFree, first_policy, QUESTION, WON[:3] + [WON[0], None], index=4)
        raised(self, errors.BadFree, first_truth, QUESTION, WON[:3] + [("won", [], ("drop", 9))], "no", index=3)


class PlacedTest(unittest.TestCase):
    def test_placed(self):
        for question, free in free_papers(910, 150):
            if free[-1][1]:
                raised(self, errors.NoEnd, placed, question, free, free=free)
                continue
            paper = told_alike(self, placed, question=question, free=free)
            self.assertIsNone(fault_by_words(question, paper))
            kind, _, literals, number, _ = paper[-1]
            self.assertEqual((kind, literals, number), ("most", [], (0, 1)) if free[0][0] == "lost" else ("least", [], (1, 1)))
            hand, policy = HANDS[free[0][0]], first_policy(question, free)
            follow = [one for one in all_positions(question) if does_follow(question, hand, policy, one)]
            self.assertLessEqual(len(paper), 2 * len(follow))

    def test_edges(self):
        empty = Question([], [], [])
        self.assertTrue(same(placed(empty, [("won", [], ("start",))]), [("least", 0, [], (1, 1), ("won",))]))
        lost = Question([("a", "we")], [[]], [])
        self.assertTrue(same(placed(lost, [("lost", [], ("start",))]), [("most", 1, [], (0, 1), ("lost",))]))

    def test_at_the_limits(self):
        for seed in range(920, 926):
            question = made_question(random.Random(seed), 10, clauses=30, chance=False, width=6)
            free = found_free(question)
            paper = placed(question, free)
            self.assertTrue(is_paper(question, paper))
            back = freed(question, paper, len(paper) - 1)
            self.assertIsNone(free_fault(question, back))
            rows = sure_rows(question, HANDS[free[0][0]], first_policy(question, free))
            self.assertIsNone(sure_fault(question, HANDS[free[0][0]], first_policy(question, free), rows))

    def test_errors(self):
        for thing in any_objects():
            if not isinstance(thing, Question):
                raised(self, errors.BadQuestion, placed, thing, None, question=thing)
            if thing != [("lost", [], ("start",))]:
                raised(self, errors.BadFree, placed, QUESTION, thing, index=0)
        raised(self, errors.HasChance, placed, CHANCE, None, question=CHANCE)
        for cut in range(1, 5):
            free = WON[:cut]
            raised(self, errors.NoEnd, placed, QUESTION, free, free=free)
        raised(self, errors.BadFree, placed, QUESTION, WON[:1] + [("won", [X], ("drop", 0))], index=1)


class FreedTest(unittest.TestCase):
    def test_freed(self):
        source = random.Random(930)
        many = 0
        for question in questions(931, 60, least=4, most=5, clauses=5, width=4, guards=False, chance=False):
            papers = [made_paper(source, question, 60), border(question, source.randint(0, len(question.marks())))[1]]
            paper, _ = merged(question, source.sample(papers, 2))
            for index, row in enumerate(paper):
                if row[3] != ((0, 1) if row[0] == "most" else (1, 1)):
                    raised(self, errors.SaysLittle, freed, question, paper, index, index=index)
                    continue
                free = told_alike(self, freed, question=question, paper=paper, index=index)
                self.assertIsNone(free_fault(question, free))
                self.assertTrue(set(free[-1][1]) <= set(row[2]))
                self.assertEqual(free[0][0], "lost" if row[0] == "most" else "won")
                self.assertLessEqual(len(free), len(hangs_on(question, paper, index)))
                many += len(free) > 3
        self.assertGreater(many, 15)

    def test_there_and_back(self):
        for question, free in free_papers(940, 100):
            if not free[-1][1]:
                paper = placed(question, free)
                back = freed(question, paper, len(paper) - 1)
                self.assertIsNone(free_fault(question, back))
                self.assertEqual((back[-1][0], back[-1][1]), (free[0][0], []))
                self.assertIsNone(fault_by_words(question, placed(question, back)))

    def test_errors(self):
        paper = placed(QUESTION, WON)
        for thing in any_objects():
            if not isinstance(thing, Question):
                raised(self, errors.BadQuestion, freed, thing, None, None, question=thing)
            if thing not in ([], ()):
                raised(self, errors.BadPaper, freed, QUESTION, thing, None, index=0)
            else:
                raised(self, errors.BadIndex, freed, QUESTION, thing, 0, index=0)
            if type(thing) is not int or not 0 <= thing < len(paper):
                raised(self, errors.BadIndex, freed, QUESTION, paper, thing, index=thing)
        raised(self, errors.HasChance, freed, CHANCE, None, None, question=CHANCE)
        loose = [("most", 2, [], (1, 1), ("any",)), ("least", 2, [], (0, 1), ("none",)), ("least", 1, [], (0, 1), ("drop", 1))]
        for index in range(3):
            raised(self, errors.SaysLittle, freed, QUESTION, loose, index, index=index)


def is_sure_by_words(question, hand, policy, literals):
    """Whether the other hand's literals make it sure, by the words of the document."""
    truths = dict(literals)
    for name, by in question.marks():
        if by != hand:
            continue
        told = False
        for lot, truth in policy[name]:
            if any(truths.get(mark) is (not side) for mark, side in lot):
                continue
            told = truth if all(truths.get(mark) is side for mark, side in lot) else None
            break
        if told is not None:
            truths[name] = told

    def holds(clause):
        return any(truths.get(mark) is side for mark, side in clause)

    def is_against(clause):
        return all(truths.get(mark) is (not side) for mark, side in clause)

    wishes, guards = question.wishes(), question.guards()
    if hand == "we":
        return any(is_against(guard) for guard in guards) or all(holds(wish) for wish in wishes)
    return any(is_against(wish) for wish in wishes) and all(holds(guard) for guard in guards)


def sure_fault_by_words(question, hand, policy, rows):
    """The fault of things that are pairs of a list of pairs of a mark and a bool, and a tuple."""
    names = names_of(question)
    hands = dict(question.marks())
    for index, (literals, how) in enumerate(rows):
        at = [names.index(mark) for mark, _ in literals]
        form = at == sorted(set(at)) and all(hands[mark] != hand for mark, _ in literals)
        form = form and (how == ("sure",) or (len(how) == 3 and how[0] == "join" and all(type(i) is int and i >= 0 for i in how[1:])))
        if not form:
            return (index, "form")
        if how == ("sure",):
            if not is_sure_by_words(question, hand, policy, literals):
                return (index, "sure")
            continue
        if max(how[1:]) >= index:
            return (index, "how")
        no, yes = dict(rows[how[1]][0]), dict(rows[how[2]][0])
        unlike = [mark for mark in no if mark in yes and yes[mark] is not no[mark]]
        if len(unlike) != 1 or no[unlike[0]]:
            return (index, "how")
        if {mark: truth for mark, truth in {**no, **yes}.items() if mark != unlike[0]} != dict(literals):
            return (index, "literals")
    return None


def made_functions(source, question, hand, pairs=3):
    """A policy with pairs whose literals stand in any order."""
    policy = {}
    for place, (name, by) in enumerate(question.marks()):
        if by == hand:
            policy[name] = []
            for _ in range(source.randint(0, pairs)):
                ahead = source.sample(names_of(question)[:place], source.randint(0, min(3, place)))
                policy[name].append(([(mark, source.random() < 0.5) for mark in ahead], source.random() < 0.5))
    return policy


def spoilt_sure(source, question, row):
    literals, how = row
    names = names_of(question)
    what = source.randrange(5)
    if what == 0 and literals:
        at = source.randrange(len(literals))
        literals = literals[:at] + source.choice([[], [(literals[at][0], not literals[at][1])]]) + literals[at + 1:]
    elif what == 1:
        literals = sorted(literals + [(source.choice(names), source.random() < 0.5)], key=lambda one: names.index(one[0]))
    elif what == 2:
        literals = literals[::-1]
    elif what == 3:
        how = (how[0],) + tuple(max(0, index + source.choice([-1, 1, 2, 50])) for index in how[1:])
    else:
        how = source.choice([("sure",), ("join", 0, 1), ("join", 1, 0), ("join", 0, 0), ("drop", 0), ("start",), ("join", 2, 1)])
    return (literals, how)


class SureTest(unittest.TestCase):
    def test_just_one(self):
        source = random.Random(950)
        many = {("we", True): 0, ("we", False): 0, ("they", True): 0, ("they", False): 0}
        for question in questions(951, 300, chance=False):
            for hand in ("we", "they"):
                policy = made_functions(source, question, hand)
                rows = sure_rows(question, hand, policy)
                beaten = beaten_play(question, hand, policy)
                many[hand, rows is None] += 1
                self.assertIs(rows is None, beaten is not None)
                if rows is not None:
                    self.assertEqual(rows[-1][0], [])
                    self.assertIsNone(sure_fault(question, hand, policy, rows))
                    self.assertIsNone(sure_fault_by_words(question, hand, policy, rows))
        self.assertGreater(min(many.values()), 40)

    def test_first_policies_are_sure(self):
        kinds = {"lost": 0, "won": 0}
        for question, free in free_papers(960, 100):
            if any(not row[1] for row in free):
                hand = HANDS[free[0][0]]
                policy = first_policy(question, free)
                rows = told_alike(self, sure_rows, question=question, hand=hand, policy=policy)
                self.assertIsNone(told_alike(self, sure_fault, question=question, hand=hand, policy=policy, thing=rows))
                self.assertEqual(rows[-1][0], [])
                kinds[free[0][0]] += len(rows) > 1
        self.assertGreater(min(kinds.values()), 8)

    def test_judged_by_their_words(self):
        source = random.Random(970)
        whys = {}
        for question in questions(971, 250, least=1, chance=False):
            for hand in ("we", "they"):
                policy = made_functions(source, question, hand)
                others = [name for name, by in question.marks() if by != hand]
                rows = sure_rows(question, hand, policy) or []
                for _ in range(10):
                    lot = [(name, source.random() < 0.5) for name in others if source.random() < 0.7]
                    self.assertEqual(
                        sure_fault(question, hand, policy, [(lot, ("sure",))]),
                        None if is_sure_by_words(question, hand, policy, lot) else (0, "sure"),
                    )
                for _ in range(15):
                    other = list(rows) + [source.choice(rows) if rows else ([], ("sure",))]
                    for _ in range(source.randint(1, 2)):
                        at = source.randrange(len(other))
                        other[at] = spoilt_sure(source, question, other[at])
                    fault = sure_fault(question, hand, policy, other)
                    self.assertEqual(fault, sure_fault_by_words(question, hand, policy, other), other)
                    whys[fault and fault[1]] = whys.get(fault and fault[1], 0) + 1
        self.assertEqual(set(whys), {None, "form", "how", "sure", "literals"})

    def test_each_word(self):
        policy = {"y": [([NOT_X], True)]}
        rows = [([NOT_X], ("sure",)), ([X], ("sure",)), ([], ("join", 0, 1))]
        self.assertIsNone(sure_fault(QUESTION, "we", policy, rows))
        self.assertIsNone(sure_fault(QUESTION, "we", policy, []))
        self.assertIsNone(sure_fault(QUESTION, "we", policy, ()))
        for index, row, why in [
            (0, None, "form"), (0, ([X, X], ("sure",)), "form"), (0, ([Y], ("sure",)), "form"), (0, ([X], ("sure", 0)), "form"),
            (0, ([X], "sure"), "form"), (0, ([X], ("drop", 0)), "form"), (0, ([("z", True)], ("sure",)), "form"), (0, ([X],), "form"),
            (2, ([], ("join", 0, True)), "form"), (2, ([], ("join", -1, 1)), "form"), (2, ([], ("join", 1)), "form"),
            (2, ([], ("join", 1, 2)), "how"), (2, ([], ("join", 1, 0)), "how"), (2, ([], ("join", 0, 0)), "how"),
            (0, ([], ("sure",)), "sure"), (2, ([X], ("join", 0, 1)), "literals"), (2, ([NOT_X], ("join", 0, 1)), "literals"),
        ]:
            self.assertEqual(sure_fault(QUESTION, "we", policy, rows[:index] + [row, None]), (index, why), row)
        two = Question([("u", "they"), ("v", "they"), ("y", "we")], [], [])
        lot = [([("u", False), ("v", False)], ("sure",)), ([("u", True), ("v", True)], ("sure",)), ([], ("join", 0, 1))]
        self.assertEqual(sure_fault(two, "we", {"y": []}, lot), (2, "how"))
        mixed = [lot[0], ([("u", True)], ("sure",)), ([("v", False)], ("join", 0, 1))]
        self.assertIsNone(sure_fault(two, "we", {"y": []}, mixed))
        self.assertEqual(sure_fault(two, "we", {"y": []}, mixed[:2] + [([], ("join", 0, 1))]), (2, "literals"))

    def test_open_marks(self):
        """A pair with an open literal makes the mark open, unless one is against; what is open decides nothing behind."""
        question = Question([("u", "they"), ("v", "they"), ("y", "we"), ("z", "we")], [[("z", True)]], [])
        u, v, y = ("u", True), ("v", True), ("y", True)
        for function, lot, is_sure in [
            ([([], True)], [], True), ([([u], True)], [], False), ([([u], True), ([], True)], [], False),
            ([([u, v], False), ([], True)], [("v", False)], True), ([([u, v], False), ([], True)], [("u", True)], False),
            ([([y], True)], [], True), ([([("y", False)], True)], [], False), ([([u], True)], [u], True), ([], [u, v], False),
        ]:
            fault = sure_fault(question, "we", {"y": [([], True)], "z": function}, [(lot, ("sure",))])
            self.assertEqual(fault, None if is_sure else (0, "sure"), (function, lot))
        policy = {"y": [([u], False)], "z": [([y], False), ([], True)]}
        self.assertEqual(sure_fault(question, "we", policy, [([], ("sure",))]), (0, "sure"))
        self.assertIsNone(sure_fault(question, "we", {"y": [([], False)], "z": policy["z"]}, [([], ("sure",))]))

    def test_any_object(self):
        for thing in any_objects():
            fault = sure_fault(QUESTION, "we", {"y": []}, thing)
            self.assertEqual(fault, None if thing in ([], ()) else (0, "form"))

    def test_errors(self):
        for thing in any_objects():
            for ask in (lambda q, h, p: sure_fault(q, h, p, None), sure_rows):
                if not isinstance(thing, Question):
                    raised(self, errors.BadQuestion, ask, thing, None, None, question=thing)
                if thing not in ("we", "they"):
                    raised(self, errors.BadHand, ask, QUESTION, thing, None, hand=thing)
                raised(self, errors.BadPolicy, ask, QUESTION, "we", thing, policy=thing)
        for ask in (lambda q, h, p: sure_fault(q, h, p, None), sure_rows):
            raised(self, errors.HasChance, ask, CHANCE, None, None, question=CHANCE)
            policy = {"y": [([Y], True)]}
            raised(self, errors.BadPolicy, ask, QUESTION, "we", policy, policy=policy)
            policy = {"y": []}
            raised(self, errors.BadPolicy, ask, QUESTION, "they", policy, policy=policy)

    def test_no_marks(self):
        empty = Question([], [], [])
        self.assertTrue(same(sure_rows(empty, "we", {}), [([], ("sure",))]))
        self.assertIsNone(sure_rows(empty, "they", {}))
        self.assertIsNone(sure_rows(Question([], [[]], []), "we", {}))
        self.assertTrue(same(sure_rows(Question([], [[]], []), "they", {}), [([], ("sure",))]))


class StartTest(unittest.TestCase):
    def test_what_is_made_starts_right(self):
        """Free rows that are made of placed ones start with what is certain, by the words."""
        for question, free in free_papers(980, 60):
            for row in free:
                if row[2] == ("start",):
                    self.assertTrue(start_literals(question, row[0], row[1]))
            self.assertEqual(free[0][0], "won" if value(question, []) == 1 else "lost")


if __name__ == "__main__":
    unittest.main()
