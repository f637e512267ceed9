import random
import unittest
from fractions import Fraction
from itertools import product

from marksinturn import errors, refusals
from marksinturn.losses import given_up, least_loss, loss_of, loss_policy, policy_loss, spared
from marksinturn.losspapers import loss_paper, loss_truth
from marksinturn.lossrows import loss_fault
from marksinturn.questions import Question
from marksinturn.worth import worth_of
from tests.plain import (
    all_plays, all_positions, any_objects, as_lists, as_tuples, fraction, hand_at, holds, made_policy, made_question, mean, names_of, pair,
    questions, raised, same, tells, told_alike, value,
)

QUESTION = Question([("x", "they"), ("y", "we")], [[("x", True)], [("y", True)], [("x", False), ("y", False)]], [])
PRICES = [2, 3, 4]
ROWS = [
    ("keeps", 2, [("x", True), ("y", False)], (3, 1), ("holds", [1])), ("keeps", 2, [("x", False), ("y", True)], (2, 1), ("holds", [0])),
    ("keeps", 1, [("x", True)], (3, 1), ("drop", 0)), ("keeps", 1, [("x", False)], (2, 1), ("drop", 1)), ("keeps", 0, [], (3, 1), ("join", 3, 2)),
]


def lost_in(question, prices, play):
    if not all(holds(question, play, guard) for guard in question.guards()):
        return 0
    return sum(price for price, wish in zip(prices, question.wishes()) if not holds(question, play, wish))


def loss(question, prices, position, ours=None, theirs=None):
    """The mean loss, where policies are played that are passed, the best else."""
    place = len(position)
    if place == len(question.marks()):
        return Fraction(lost_in(question, prices, position))
    hand = hand_at(question, place)
    policy = {"we": ours, "they": theirs}.get(hand)
    if policy is not None:
        return loss(question, prices, position + [tells(question, policy[names_of(question)[place]], position)], ours, theirs)
    no, yes = [loss(question, prices, position + [truth], ours, theirs) for truth in (False, True)]
    if hand == "we":
        return min(no, yes)
    if hand == "they":
        return max(no, yes)
    return mean(hand, no, yes)


def priced(seed, many, most=4, **how):
    source = random.Random(seed)
    for _ in range(many):
        question = made_question(source, source.randint(0, most), **how)
        dear = source.choice([1, 3, 10, 10 ** 6])
        yield source, question, [source.choice([0, source.randint(0, dear), source.randint(1, dear)]) for _ in question.wishes()]


class LossTest(unittest.TestCase):
    def test_example(self):
        for position, wanted in (([], (3, 1)), ([False], (2, 1)), ([True], (3, 1)), ([False, False], (5, 1)), ([True, True], (4, 1))):
            self.assertTrue(same(told_alike(self, least_loss, question=QUESTION, prices=PRICES, position=position), wanted))
        self.assertTrue(same(told_alike(self, loss_of, question=QUESTION, prices=PRICES, play=[False, False]), 5))
        self.assertIsNone(told_alike(self, loss_fault, question=QUESTION, prices=PRICES, thing=ROWS))
        self.assertEqual([row[3] for row in loss_paper(QUESTION, PRICES)[-2:]], [(3, 1), (3, 1)])

    def test_by_their_words(self):
        for _, question, prices in priced(1900, 250):
            for play in all_plays(question):
                self.assertTrue(same(told_alike(self, loss_of, question=question, prices=prices, play=play), lost_in(question, prices, play)))
            for position in all_positions(question):
                wanted = pair(loss(question, prices, position))
                self.assertTrue(same(told_alike(self, least_loss, question=question, prices=prices, position=position), wanted))

    def test_it_holds(self):
        some = 0
        for source, question, prices in priced(1910, 200, chance=False):
            ones = [1] * len(prices)
            many = least_loss(question, ones, [])
            self.assertEqual(many[1], 1)
            paid = [price + 1 for price in prices]
            self.assertEqual(least_loss(question, paid, []) == (0, 1), worth_of(question, []) == (1, 1))
            if prices:
                at, more = source.randrange(len(prices)), source.randint(0, 9)
                dearer = prices[:at] + [prices[at] + more] + prices[at + 1:]
                rise = fraction(least_loss(question, dearer, [])) - fraction(least_loss(question, prices, []))
                self.assertTrue(0 <= rise <= more)
                some += rise > 0
        self.assertGreater(some, 20)

    def test_policies(self):
        for source, question, prices in priced(1920, 150):
            for hand in ("we", "they"):
                policy = made_policy(source, question, hand)
                played = {"ours" if hand == "we" else "theirs": policy}
                told = told_alike(self, policy_loss, question=question, prices=prices, hand=hand, policy=policy)
                self.assertTrue(same(told, pair(loss(question, prices, [], **played))))
                best = told_alike(self, loss_policy, question=question, prices=prices, hand=hand)
                self.assertEqual(list(best), [name for name, by in question.marks() if by == hand])
                self.assertEqual(policy_loss(question, prices, hand, best), least_loss(question, prices, []))
                if hand == "we":
                    self.assertGreaterEqual(fraction(told), loss(question, prices, []))
                else:
                    self.assertLessEqual(fraction(told), loss(question, prices, []))

    def test_which_ones_fail(self):
        found = set()
        for _, question, prices in priced(1930, 300, chance=False):
            least = loss(question, prices, [])
            plays = all_plays(question)
            losses = {tuple(one): loss(question, prices, one) for one in all_positions(question)}
            along = [[losses[tuple(play[:length])] for length in range(len(play) + 1)] for play in plays]
            within = [play for play, some in zip(plays, along) if all(one <= least for one in some)]
            just = [play for play, some in zip(plays, along) if all(one == least for one in some)]
            wishes = question.wishes()
            kept = [at for at, wish in enumerate(wishes) if all(holds(question, play, wish) for play in within)]
            failing = [at for at, wish in enumerate(wishes) if all(not holds(question, play, wish) for play in just)]
            self.assertTrue(same(told_alike(self, spared, question=question, prices=prices), kept))
            self.assertTrue(same(told_alike(self, given_up, question=question, prices=prices), failing))
            self.assertFalse(set(kept) & set(failing))
            if not question.guards():
                self.assertLessEqual(sum(prices[at] for at in failing), least)
            found.add((bool(kept), bool(failing)))
        self.assertEqual(len(found), 4)
        self.assertTrue(same((spared(QUESTION, PRICES), given_up(QUESTION, PRICES)), ([2], [1])))

    def test_edges(self):
        empty = Question([], [[], []], [])
        self.assertEqual((loss_of(empty, [2, 0], []), least_loss(empty, (2, 0), ())), (2, (2, 1)))
        self.assertEqual((spared(empty, [2, 0]), given_up(empty, [2, 0])), ([], [0, 1]))
        self.assertEqual(least_loss(Question([], [], []), [], []), (0, 1))
        broken = Question([("a", "they")], [[]], [[]])
        self.assertEqual((loss_of(broken, [9], [True]), least_loss(broken, [9], [])), (0, (0, 1)))
        drawn = Question([("c", (1, 3)), ("a", "they")], [[("c", True)], [("c", False), ("a", True)]], [])
        self.assertEqual(least_loss(drawn, [10 ** 6, 2], []), (2000002, 3))
        self.assertEqual(loss_policy(drawn, [10 ** 6, 1], "they"), {"a": []})
        self.assertEqual(loss_policy(drawn, [0, 0], "we"), {})

    def test_errors(self):
        plain = [
            (loss_of, (None, None)), (least_loss, (None, None)), (policy_loss, (None, None, None)), (loss_policy, (None, None)),
            (spared, (None,)), (given_up, (None,)), (loss_fault, (None, None)), (loss_paper, (None,)), (loss_truth, (None, None, None, None)),
        ]
        chance = Question([("c", (1, 2))], [[("c", True)]], [])
        for ask, more in plain:
            for thing in any_objects():
                if not isinstance(thing, Question):
                    raised(self, errors.BadQuestion, ask, thing, *more, question=thing)
                if not isinstance(thing, (list, tuple)):
                    raised(self, errors.BadPrices, ask, QUESTION, thing, *more[1:], index=0)
                if type(thing) is not int or thing < 0:
                    raised(self, errors.BadPrices, ask, QUESTION, [0, thing], *more[1:], index=1)
                    raised(self, errors.BadPrices, ask, QUESTION, [0, 1, 2, 3, thing], *more[1:], index=4)
            for prices, index in (([], 3), ([0, 0], 3), ([1] * 4, 3), ([1, 2, -1], 2), ([True, 0, 0], 0)):
                raised(self, errors.BadPrices, ask, QUESTION, prices, *more[1:], index=index)
            if ask in (spared, given_up):
                raised(self, errors.HasChance, ask, chance, None, question=chance)
            else:
                raised(self, errors.BadPrices, ask, chance, None, *more[1:], index=0)
        for thing in any_objects():
            if not isinstance(thing, (list, tuple)) or len(thing) != 2 or any(type(one) is not bool for one in thing):
                raised(self, errors.BadPlay, loss_of, QUESTION, PRICES, thing, play=thing)
            if thing not in ([], (), [True]):
                raised(self, errors.BadPosition, least_loss, QUESTION, PRICES, thing, position=thing)
            if thing not in ("we", "they"):
                raised(self, errors.BadHand, policy_loss, QUESTION, PRICES, thing, None, hand=thing)
                raised(self, errors.BadHand, loss_policy, QUESTION, PRICES, thing, hand=thing)
            raised(self, errors.BadPolicy, policy_loss, QUESTION, PRICES, "we", thing, policy=thing)
        for policy in ({"x": []}, {"y": [([("y", True)], True)]}, {"y": [], "x": []}):
            raised(self, errors.BadPolicy, policy_loss, QUESTION, PRICES, "we", policy, policy=policy)


def literals_right(question, word, named, literals):
    wishes, guards = question.wishes(), question.guards()
    turned = [(mark, not truth) for mark, truth in literals]
    if word == "fails":
        every = all(set(wishes[at]) <= set(literals) for at in named)
        return every and all(any(one in turned for one in guard) for guard in guards)
    if word == "holds":
        return all(any(one in literals for one in wish) for at, wish in enumerate(wishes) if at not in named)
    if word == "broken":
        return all(one in turned for one in guards[named])
    return not literals


def why_not(question, prices, rows, row):
    """What is wrong with a row that has the form of a loss row, by the words of the document."""
    kind, place, literals, told, how = row
    names = names_of(question)
    literals = [tuple(one) for one in literals]
    if how[0] not in ("drop", "join"):
        if kind != {"fails": "loses", "none": "loses", "holds": "keeps", "broken": "keeps"}[how[0]]:
            return "kind"
        if how[0] in ("fails", "holds") and any(at >= len(prices) for at in how[1]) or how[0] == "broken" and how[1] >= len(question.guards()):
            return "kind"
        if place != len(names):
            return "place"
        if not literals_right(question, how[0], how[1] if len(how) > 1 else None, literals):
            return "literals"
        return None if fraction(told) == (sum(prices[at] for at in how[1]) if how[0] in ("fails", "holds") else 0) else "loss"
    if any(index >= len(rows) or rows[index][0] != kind for index in how[1:]):
        return "kind"
    named = [rows[index] for index in how[1:]]
    if place == len(names) or any(one[1] <= place for one in named):
        return "place"
    mark, hand = question.marks()[place]
    if (hand == {"loses": "they", "keeps": "we"}[kind]) != (how[0] == "drop"):
        return "hand"
    if any(names.index(one) > place for other in named for one, _ in other[2]):
        return "literals"
    if how[0] == "join":
        bad = (mark, kind == "keeps"), (mark, kind == "loses")
        if any(tuple(one) == wrong for other, wrong in zip(named, bad) for one in other[2]):
            return "literals"
        if not any(one == mark for other in named for one, _ in other[2]):
            return "literals"
    made = {tuple(one) for other in named for one in other[2] if one[0] != mark}
    if len({one for one, _ in made}) < len(made) or made != set(literals):
        return "literals"
    numbers = [fraction(one[3]) for one in named]
    right = {"we": min, "they": max}[hand](numbers) if isinstance(hand, str) else mean(hand, *numbers)
    return None if fraction(told) == right else "loss"


def fault_by_words(question, prices, rows):
    for index, row in enumerate(rows):
        why = why_not(question, prices, rows[:index], row)
        if why is not None:
            return (index, why)
    return None


def made_rows(source, question, prices, tries=40):
    """Loss rows made by chance."""
    names = names_of(question)
    rows = []
    for _ in range(tries):
        literals = [(name, source.random() < 0.5) for name in names if source.random() < 0.8]
        place = len(names)
        kind = source.choice(["loses", "keeps"])
        if source.random() < 0.4 or not rows:
            every = [at for at in range(len(prices)) if source.random() < 0.5]
            how = source.choice([("fails", every), ("holds", every), ("broken", source.randint(0, 2)), ("none",)])
            if how == ("fails", []):
                continue
            lost = sum(prices[at] for at in every) if how[0] in ("fails", "holds") else 0
            numbers = [(lost, 1)]
        else:
            place = source.randint(0, len(names))
            one, two = source.choice(rows), source.choice(rows)
            how = source.choice([("drop", rows.index(one)), ("join", rows.index(one), rows.index(two))])
            kind = one[0]
            both = {tuple(lit) for row in (one, two)[:len(how) - 1] for lit in row[2] if names.index(lit[0]) != place}
            literals = sorted(both, key=lambda lit: names.index(lit[0]))
            if len({lit[0] for lit in literals}) < len(literals) or any(names.index(lit[0]) >= place for lit in literals):
                continue
            numbers = [one[3], two[3]]
            if place < len(names) and not isinstance(hand_at(question, place), str):
                numbers.append(pair(mean(hand_at(question, place), fraction(one[3]), fraction(two[3]))))
        for number in numbers:
            row = (kind, place, literals, number, how)
            if why_not(question, prices, rows, row) is None:
                rows.append(row)
                break
    return rows


def spoilt(source, question, row):
    """A row with one thing otherwise that still has the form of one."""
    kind, place, literals, told, how = row
    names = names_of(question)
    what = source.randrange(6)
    if what == 0:
        kind = {"loses": "keeps", "keeps": "loses"}[kind]
    elif what == 1:
        place = source.randint(max([names.index(mark) for mark, _ in literals], default=-1) + 1, len(names))
    elif what == 2 and literals:
        at = source.randrange(len(literals))
        literals = literals[:at] + source.choice([[], [(literals[at][0], not literals[at][1])]]) + literals[at + 1:]
    elif what == 3:
        told = source.choice([(0, 1), (1, 1), (1, 2), (told[0] + told[1], told[1])])
    elif what == 4 and how[0] in ("drop", "join"):
        how = (how[0], *[max(0, index + source.choice([-1, 0, 1, 50])) for index in how[1:]])
    else:
        how = source.choice([("fails", [0]), ("fails", [0, 1, 50]), ("holds", []), ("holds", [0, 2]), ("broken", 0), ("broken", 7), ("none",), ("drop", 0), ("join", 0, 1)])
    return (kind, place, literals, told, how)


def tells_of(question, row, position):
    truths = dict(zip(names_of(question), position))
    if len(position) > row[1]:
        return False
    return all(mark in truths and (truths[mark] == truth) == (row[0] == "keeps") for mark, truth in row[2])


def truth_by_words(question, rows, kind, position):
    telling = [row for row in rows if row[0] == kind and tells_of(question, row, position)]
    if not telling:
        return False
    best = (max if kind == "loses" else min)(fraction(row[3]) for row in telling)
    row = [one for one in telling if fraction(one[3]) == best][0]
    if row[4][0] != "drop" or row[1] != len(position):
        return False
    mark = names_of(question)[len(position)]
    sides = [truth for name, truth in rows[row[4][1]][2] if name == mark]
    return bool(sides) and sides[0] == (kind == "keeps")


class LossRowsTest(unittest.TestCase):
    def test_rows_by_their_words(self):
        words = {}
        for source, question, prices in priced(1940, 250):
            rows = made_rows(source, question, prices)
            self.assertIsNone(told_alike(self, loss_fault, question=question, prices=prices, thing=rows))
            for row in rows:
                for position in all_positions(question):
                    if tells_of(question, row, position):
                        least = loss(question, prices, position)
                        self.assertTrue(least >= fraction(row[3]) if row[0] == "loses" else least <= fraction(row[3]))
            for _ in range(6 if rows else 0):
                thing = list(rows)
                at = source.randrange(len(rows))
                thing[at] = spoilt(source, question, rows[at])
                wanted = fault_by_words(question, prices, thing)
                self.assertTrue(same(loss_fault(question, prices, thing), wanted), (thing[at], wanted))
                words[wanted and wanted[1]] = words.get(wanted and wanted[1], 0) + 1
        self.assertEqual(set(words), {None, "kind", "place", "hand", "literals", "loss"})
        self.assertGreater(min(words.values()), 2, words)

    def test_form(self):
        right = ROWS[0]
        self.assertIsNone(loss_fault(QUESTION, PRICES, [right]))
        wrong = [
            ("most", *right[1:]), (None, *right[1:]), ([], *right[1:]), (["keeps"], *right[1:]), (right[0], 3, *right[2:]), (right[0], -1, *right[2:]), (right[0], True, *right[2:]),
            (right[0], 2, [("y", False), ("x", True)], *right[3:]), (right[0], 1, *right[2:]), (right[0], 2, [("z", True)], *right[3:]),
            (right[0], 2, [("x", 1)], *right[3:]), (right[0], 2, None, *right[3:]), right[:4], (*right, 0),
        ]
        wrong += [(*right[:3], number, right[4]) for number in [(6, 2), (3, 0), (-3, 1), (3,), None, 3, (0, 2), (True, 1), (3, 1, 1), (3, None), (3, True), (3, -1), (1, 0), ("3", 1), ([3], 1)]]
        hows = [
            ("holds",), ("holds", 1), ("holds", [1, 1]), ("holds", [2, 1]), ("holds", [-1]), ("holds", [True]), ("holds", [1], [1]), ("holds", None),
            ("fails", []), ("broken",), ("broken", -1), ("broken", [0]), ("broken", True), ("none", 0), ("lost",), ("any",), ("start",), (),
            None, "none", {0: "none"}, ("none", 0, 0), ("fails", None), ("fails", "ab"), ("fails", [1, 1]), ("lost", [1]), ("any", [1]), ("drop",), ("drop", -1), ("join", 0), ("join", 0, True), (["holds"], [1]), ("drop", 0, 0),
        ]
        wrong += [(*right[:4], how) for how in hows]
        for thing in wrong + any_objects():
            self.assertTrue(same(loss_fault(QUESTION, PRICES, [ROWS[0], thing, None]), (1, "form")), thing)
        for thing in any_objects():
            wanted = (0, "form")
            if thing in ([], ()):
                wanted = None
            self.assertTrue(same(loss_fault(question=QUESTION, prices=PRICES, thing=thing), wanted))
        guarded = Question(QUESTION.marks(), QUESTION.wishes(), [[("y", True)], [("x", False), ("y", True)]])
        for literals, fault in (([("x", True)], "literals"), ([("x", True), ("y", True)], "literals"), ([("x", True), ("y", False)], None)):
            self.assertEqual(loss_fault(guarded, PRICES, [("loses", 2, literals, (2, 1), ("fails", [0]))]), fault and (0, fault))
        broken = [([("y", False)], 0, "literals"), ([("y", True)], 0, None), ([("y", True)], 1, "literals"), ([("x", False), ("y", True)], 1, None), ([("y", True)], 2, "kind")]
        for literals, index, fault in broken:
            turned = Question(QUESTION.marks(), [], [[("y", False)], [("x", True), ("y", False)]])
            self.assertEqual(loss_fault(turned, [], [("keeps", 2, literals, (0, 1), ("broken", index))]), fault and (0, fault))
        self.assertEqual(loss_fault(QUESTION, PRICES, [("keeps", 2, [], (9, 1), ("holds", [0, 1, 2]))]), None)
        self.assertEqual(loss_fault(QUESTION, PRICES, [("keeps", 2, [], (9, 1), ("holds", [0, 1, 2, 3]))]), (0, "kind"))
        self.assertEqual(loss_fault(QUESTION, PRICES, [("loses", 2, [], (0, 1), ("none",))]), None)
        self.assertEqual(loss_fault(QUESTION, PRICES, [("keeps", 2, [], (0, 1), ("broken", 0))]), (0, "kind"))
        self.assertEqual(loss_fault(QUESTION, PRICES, [("keeps", 2, [], (0, 1), ("none",))]), (0, "kind"))


class LossPaperTest(unittest.TestCase):
    def test_one_loss(self):
        for _, question, prices in priced(1950, 300, most=5):
            told = told_alike(self, loss_paper, question=question, prices=prices)
            self.assertIsNone(loss_fault(question, prices, told))
            self.assertIsNone(fault_by_words(question, prices, told))
            least = pair(loss(question, prices, []))
            self.assertTrue(same([(row[0], row[2], row[3]) for row in told[-2:]], [("loses", [], least), ("keeps", [], least)]))
            for shape in (as_lists, as_tuples):
                self.assertIsNone(loss_fault(question, prices, shape(told)))

    def test_truths(self):
        asked = set()
        for source, question, prices in priced(1960, 150):
            told = source.choice([loss_paper(question, prices), made_rows(source, question, prices)])
            for position in all_positions(question):
                place = len(position)
                for kind, hand in (("loses", "they"), ("keeps", "we")):
                    if place < len(question.marks()) and hand_at(question, place) == hand:
                        passed = {"question": question, "prices": prices, "losses": told, "kind": kind, "position": position}
                        truth = told_alike(self, loss_truth, **passed)
                        self.assertIs(truth, truth_by_words(question, told, kind, position))
                        asked.add((kind, truth))
                    else:
                        raised(self, errors.BadPosition, loss_truth, question, prices, told, kind, position, position=position)
        self.assertEqual(len(asked), 4)

    def played(self, question, prices, rows, kind, position):
        """The mean loss where the hand of a kind sets by rows, the other one as it is worst for it."""
        place = len(position)
        if place == len(question.marks()):
            return Fraction(lost_in(question, prices, position))
        hand = hand_at(question, place)
        if hand == {"loses": "they", "keeps": "we"}[kind]:
            return self.played(question, prices, rows, kind, position + [loss_truth(question, prices, rows, kind, position)])
        no, yes = [self.played(question, prices, rows, kind, position + [truth]) for truth in (False, True)]
        if isinstance(hand, str):
            return (min if kind == "loses" else max)(no, yes)
        return mean(hand, no, yes)

    def test_read_off(self):
        for source, question, prices in priced(1970, 120):
            told = loss_paper(question, prices) + []
            for position in all_positions(question):
                for kind in ("loses", "keeps"):
                    numbers = [fraction(row[3]) for row in told if row[0] == kind and tells_of(question, row, position)]
                    lost = self.played(question, prices, told, kind, position)
                    if numbers and kind == "loses":
                        self.assertGreaterEqual(lost, max(numbers))
                    elif numbers:
                        self.assertLessEqual(lost, min(numbers))

    def test_at_the_limits(self):
        source = random.Random(1980)
        for chance in (False, True):
            question = made_question(source, 10, clauses=30, chance=chance, width=2)
            prices = [source.randint(0, 10 ** 6) for _ in question.wishes()]
            told = loss_paper(question, prices)
            self.assertIsNone(loss_fault(question, prices, told))
            self.assertEqual(told[-1][3], told[-2][3])
            self.assertEqual(told[-1][3], least_loss(question, prices, []))

    def test_errors(self):
        for thing in any_objects():
            if thing not in ([], ()):
                raised(self, refusals.BadLosses, loss_truth, QUESTION, PRICES, thing, None, None, index=0)
            raised(self, refusals.BadLosses, loss_truth, QUESTION, PRICES, [ROWS[0], thing, None], None, None, index=1)
            raised(self, errors.BadKind, loss_truth, QUESTION, PRICES, ROWS, thing, None, kind=thing)
            if thing != [True]:
                raised(self, errors.BadPosition, loss_truth, QUESTION, PRICES, ROWS, "keeps", thing, position=thing)
            if thing not in ([], ()):
                raised(self, errors.BadPosition, loss_truth, QUESTION, PRICES, ROWS, "loses", thing, position=thing)


if __name__ == "__main__":
    unittest.main()
