import random
import unittest
from itertools import product

from marksinturn import errors, refusals
from marksinturn.forever import is_kept, is_lost_game, kept_for_ever, lost_papers, lost_within
from marksinturn.games import round_question, unrolled
from marksinturn.gamestates import kept_sides, lot_at, played, states_for
from marksinturn.numberpapers import is_paper
from marksinturn.readingoff import read_policy
from marksinturn.solving import reached, solved
from tests.plain import any_objects, as_lists, as_tuples, made_policy, raised, same, tells, told_alike, value
from tests.plaingames import beginning, keeps_rules, lots_of_states, made_game, names_of_game, next_state, states_of
from tests.test_games import AS_K, GAME, KEPT, LOST, NO_GAMES, TURNS, holds_in, made_lot

EMPTY = ([], [("u", "they"), ("y", "we")], [], [])
SOON = ([], [("u", "they"), ("y", "we")], [], [[("u", True)]])


def games(seed, many, **how):
    source = random.Random(seed)
    for _ in range(many):
        yield source, made_game(source, **how)


def counter(bits):
    """A game in which ours count up the kept marks, and they all Yes are lost."""
    rules = [[(f"k{at}", False) for at in range(bits)]]
    for at in range(bits):
        lows = [f"k{low}" for low in range(at)]
        for truth in (False, True):
            rules.append([(low, False) for low in lows] + [(f"k{at}", truth), (f"n{at}", truth)])
            rules += [[(low, True), (f"k{at}", truth), (f"n{at}", not truth)] for low in lows]
    names = [f"n{at}" for at in range(bits)]
    return ([(f"k{at}", False) for at in range(bits)], [(name, "we") for name in names], names, rules)


class StatesTest(unittest.TestCase):
    def test_example(self):
        self.assertTrue(same(told_alike(self, states_for, game=LOST, many=1), [[False]]))
        self.assertTrue(same(told_alike(self, states_for, game=LOST, many=None), []))
        self.assertTrue(same(states_for(LOST, 0), [[False], [True]]))
        self.assertTrue(same(states_for(LOST, 2), []))

    def test_all_rounds(self):
        kinds = set()
        for _, game in games(2100, 250):
            lots = lots_of_states(game)
            for many in range(len(lots) + 2):
                wanted = lots[min(many, len(lots) - 1)]
                self.assertTrue(same(told_alike(self, states_for, game=game, many=many), wanted))
            self.assertTrue(same(told_alike(self, states_for, game=game, many=None), lots[-1]))
            self.assertTrue(same(states_for(game, 10 ** 40), lots[-1]))
            gone = [many for many, lot in enumerate(lots) if beginning(game) not in lot]
            wanted = gone[0] if gone else None
            self.assertTrue(same(told_alike(self, lost_within, game=game), wanted))
            self.assertTrue(wanted is None or 1 <= wanted <= 2 ** len(game[0]))
            kinds.add((wanted, bool(game[0])))
        self.assertLessEqual({(None, True), (None, False), (1, True), (1, False), (2, True)}, kinds)

    def test_lots(self):
        for source, game in games(2110, 200):
            states = states_of(game)
            some = source.sample(states, source.randint(0, len(states)))
            names = [name for name, _ in game[0]]
            wanted = [[(name, not truth) for name, truth in zip(names, state)] for state in states if state not in some]
            told = told_alike(self, lot_at, game=game, states=some)
            self.assertTrue(same(told, wanted))
            for state in states:
                self.assertEqual(holds_in(told, names, state), state in some)
        self.assertTrue(same(lot_at(EMPTY, []), [[]]))
        self.assertTrue(same(lot_at(EMPTY, [[]]), []))

    def test_sides(self):
        some = 0
        for _, game in games(2120, 250, kept=3):
            lots = lots_of_states(game)
            wanted = []
            for at, (name, _) in enumerate(game[0]):
                other = beginning(game)
                other[at] = not other[at]
                if (other in lots[-1]) != (beginning(game) in lots[-1]):
                    wanted.append(name)
            told = told_alike(self, kept_sides, game=game)
            self.assertTrue(same(told, wanted))
            for name in told:
                in_rules = any(name == mark for rule in game[3] for mark, _ in rule)
                self.assertTrue(in_rules or any(other == name for (kept, _), other in zip(game[0], game[2]) if kept != name))
            some += bool(told)
        self.assertGreater(some, 20)
        self.assertEqual((kept_sides(GAME), kept_sides(LOST), kept_sides(EMPTY)), ([], [], []))
        stays = ([("k", True), ("b", True)], TURNS, ["k", "b"], [[("k", True), ("u", True)]])
        self.assertEqual(kept_sides(stays), ["k"])

    def test_played(self):
        ends = set()
        for source, game in games(2130, 250):
            question = round_question(game, [])
            policy = made_policy(source, question, "we")
            many = sum(hand == "they" for _, hand in game[1])
            theirs = [[source.random() < 0.5 for _ in range(many)] for _ in range(source.randint(0, 6))]
            told = told_alike(self, played, game=game, policy=policy, theirs=theirs)
            state, rounds, failed = beginning(game), [], None
            for one in theirs:
                truths = list(state)
                left = list(one)
                for name, hand in game[1]:
                    truths.append(left.pop(0) if hand == "they" else tells(question, policy[name], truths))
                rounds.append(truths)
                names = dict(zip(names_of_game(game), truths))
                if not keeps_rules(game, names):
                    failed = [any(names[mark] is side for mark, side in rule) for rule in game[3]].index(False)
                    break
                state = next_state(game, names)
            self.assertTrue(same(told, (rounds, failed)))
            ends.add((failed is None, len(rounds) == len(theirs)))
        self.assertEqual(ends, {(True, True), (False, True), (False, False)})

    def test_long(self):
        policy = {"y": [([("k", True)], True)]}
        source = random.Random(2140)
        theirs = [[source.random() < 0.5, source.random() < 0.5] for _ in range(250)]
        rounds, failed = played(GAME, policy, theirs)
        self.assertEqual((len(rounds), failed), (250, None))
        self.assertEqual([truths[0] for truths in rounds[1:]], [one[1] for one in theirs[:-1]])
        self.assertEqual(played(GAME, {"y": []}, theirs)[1], 0)

    def test_errors(self):
        for thing in any_objects() + NO_GAMES:
            for ask in (lost_within, kept_sides, kept_for_ever, lost_papers):
                raised(self, refusals.BadGame, ask, thing, game=thing)
            for ask in (states_for, lot_at, is_kept, is_lost_game):
                raised(self, refusals.BadGame, ask, thing, "x", game=thing)
            raised(self, refusals.BadGame, played, thing, None, None, game=thing)
        for thing in any_objects():
            if thing is not None and (type(thing) is not int or thing < 0):
                raised(self, refusals.BadMany, states_for, GAME, thing, many=thing)
            if not isinstance(thing, (list, tuple)):
                raised(self, refusals.BadStates, lot_at, GAME, thing, index=0)
                raised(self, refusals.BadTheirs, played, GAME, {"y": []}, thing, index=0)
            if thing != [True]:
                raised(self, refusals.BadStates, lot_at, GAME, [[False], thing, None], index=1)
            raised(self, refusals.BadTheirs, played, GAME, {"y": []}, [[True, True], thing, None], index=1)
            raised(self, errors.BadPolicy, played, GAME, thing, None, policy=thing)
        for states, index in (([[True], [True]], 1), ([[True], [False], (True,)], 2), ([[]], 0), ([[True, True]], 0), ([[1]], 0)):
            raised(self, refusals.BadStates, lot_at, GAME, states, index=index)
        for theirs, index in (([[True]], 0), ([[True, True], [True, True, True]], 1), ([[True, 1]], 0)):
            raised(self, refusals.BadTheirs, played, GAME, {"y": []}, theirs, index=index)
        for policy in ({}, {"y": [], "u": []}, {"y": [([("v", True)], True)]}, {"y": [([("y", True)], True)]}):
            raised(self, errors.BadPolicy, played, GAME, policy, [], policy=policy)


def has_row(question, paper, kind, number):
    if not is_paper(question, paper):
        return False
    return any(row[0] == kind and not list(row[2]) and tuple(row[3]) == number for row in paper)


def kept_by_words(game, thing):
    lot, paper = thing
    names = [name for name, _ in game[0]]
    return holds_in(lot, names, beginning(game)) and has_row(round_question(game, lot), paper, "least", (1, 1))


class ForEverTest(unittest.TestCase):
    def test_example(self):
        told = told_alike(self, kept_for_ever, game=GAME)
        self.assertIs(told_alike(self, is_kept, game=GAME, thing=told), True)
        self.assertTrue(same(told[0], []))
        self.assertIsNone(lost_papers(GAME))
        self.assertIsNone(lost_within(GAME))
        self.assertTrue(same(told_alike(self, lost_within, game=LOST), 2))
        self.assertIsNone(kept_for_ever(LOST))
        self.assertEqual(unrolled(LOST, 2).wishes(), [[("m3", False), ("m4", False)]])

    def test_just_one(self):
        found = {}
        for _, game in games(2150, 300):
            kept = told_alike(self, kept_for_ever, game=game)
            lost = told_alike(self, lost_papers, game=game)
            self.assertNotEqual(kept is None, lost is None)
            lots = lots_of_states(game)
            self.assertEqual(kept is not None, beginning(game) in lots[-1])
            if lost is None:
                self.assertTrue(kept_by_words(game, kept))
                for shape in (as_lists, as_tuples):
                    self.assertIs(is_kept(game, shape(kept)), True)
            else:
                many, paper, other = lost
                self.assertEqual(many, lost_within(game))
                self.assertTrue(has_row(unrolled(game, many), paper, "most", (0, 1)))
                self.assertTrue(has_row(unrolled(game, many - 1), other, "least", (1, 1)))
                for shape in (as_lists, as_tuples):
                    self.assertIs(is_lost_game(game, shape(lost)), True)
                for wrong in ((many + 1, paper, other), (many - 1, paper, other), (many, other, paper), (many, paper, []), (many, [], other), (10 ** 40, paper, other), (True, paper, other), (many, paper, other, 0)):
                    self.assertIs(is_lost_game(game, wrong), False)
            found[lost and lost[0]] = found.get(lost and lost[0], 0) + 1
        self.assertLessEqual({None, 1, 2}, set(found))

    def test_played_by_its_paper(self):
        for source, game in games(2160, 150):
            kept = kept_for_ever(game)
            if kept is None:
                continue
            lot, paper = kept
            policy = read_policy(round_question(game, lot), paper, "we")
            many = sum(hand == "they" for _, hand in game[1])
            names = [name for name, _ in game[0]]
            for _ in range(5):
                rounds, failed = played(game, policy, [[source.random() < 0.5 for _ in range(many)] for _ in range(8)])
                self.assertIsNone(failed)
                self.assertTrue(all(holds_in(lot, names, truths[:len(names)]) for truths in rounds))

    def test_lots_that_are_kept(self):
        yes, others = 0, 0
        for source, game in games(2170, 300):
            good = states_for(game, None)
            if beginning(game) in good:
                lot = lot_at(game, good)
                self.assertIs(is_kept(game, (lot, reached(round_question(game, lot), [], (1, 1))[1])), True)
            lots = []
            for _ in range(4):
                lot = made_lot(source, game)
                question = round_question(game, lot)
                number, paper = solved(question, [])
                told = is_kept(game=game, thing=(lot, paper))
                names = [name for name, _ in game[0]]
                self.assertIs(told, holds_in(lot, names, beginning(game)) and number == (1, 1))
                yes, others = yes + told, others + (not told)
                if told:
                    lots.append([state for state in states_of(game) if holds_in(lot, names, state)])
                    self.assertTrue(all(state in good for state in lots[-1]))
            for one, other in product(lots, lots):
                both = lot_at(game, [state for state in states_of(game) if state in one or state in other])
                self.assertEqual(value(round_question(game, both), []), 1)
        self.assertGreater(min(yes, others), 30)

    def test_any_object(self):
        lot, paper = kept_for_ever(GAME)
        wrong = [(lot,), (lot, paper, []), [None, paper], ([[]], paper), ([[("k", True)]], paper), ([[("u", True)]], paper), (lot, None), (lot, []), (lot, paper[:-1]), ({}, paper), (lot, paper[::-1])]
        for thing in any_objects() + wrong:
            self.assertIs(is_kept(GAME, thing), False)
            self.assertIs(is_lost_game(GAME, thing), False)
            self.assertIs(is_lost_game(LOST, thing), False)
            self.assertIs(is_lost_game(LOST, (thing, [], [])), False)
        self.assertIs(is_kept(GAME, (lot, paper + [("most", 0, [], (1, 1), ("any",))])), False)
        self.assertIs(is_kept(GAME, (lot, paper + [("most", 4, [], (1, 1), ("any",))])), True)
        self.assertIs(is_lost_game(GAME, (1, [], [])), False)
        for row in (("most", 4, [], (1, 1), ("any",)), ("least", 4, [], (0, 1), ("none",))):
            self.assertIs(is_kept(GAME, (lot, [row])), False)
        many, most, least = lost_papers(LOST)
        for row in (("most", 6, [], (1, 1), ("any",)), ("least", 6, [], (0, 1), ("none",))):
            self.assertIs(is_lost_game(LOST, (many, [row], least)), False)
        for row in (("most", 3, [], (1, 1), ("any",)), ("least", 3, [], (0, 1), ("none",))):
            self.assertIs(is_lost_game(LOST, (many, most, [row])), False)

    def test_edges(self):
        self.assertEqual((lost_within(EMPTY), states_for(EMPTY, None), kept_for_ever(EMPTY)[0]), (None, [[]], []))
        self.assertEqual((lost_within(SOON), states_for(SOON, 0), states_for(SOON, 1)), (1, [[]], []))
        self.assertEqual(lost_papers(SOON)[0], 1)
        at_once = (KEPT, TURNS, ["k"], [[]])
        self.assertEqual((lost_within(at_once), kept_for_ever(at_once)), (1, None))
        itself = (KEPT, TURNS, ["k"], [[("k", False)]])
        self.assertTrue(same((states_for(itself, None), kept_for_ever(itself)[0]), ([[False]], [[("k", False)]])))
        self.assertEqual(kept_sides(itself), ["k"])
        no_rules = (KEPT, TURNS, ["v"], [])
        self.assertEqual((states_for(no_rules, None), kept_for_ever(no_rules)[0]), ([[False], [True]], []))
        handed = ([("k", False), ("b", False), ("c", True)], TURNS, ["b", "c", "c"], [[("k", False)]])
        self.assertEqual((lost_within(handed), kept_sides(handed)), (3, ["c"]))
        self.assertEqual(AS_K[0], GAME[3][0])

    def test_at_the_limits(self):
        for bits in (2, 3, 4):
            self.assertEqual(lost_within(counter(bits)), 2 ** bits)
            self.assertEqual(len(states_for(counter(bits), 1)), 2 ** bits - 1)
        many, paper, other = lost_papers(counter(2))
        self.assertIs(is_lost_game(counter(2), (many, paper, other)), True)
        kept = [(f"k{at}", False) for at in range(4)]
        turns = [("u", "they"), ("y", "we"), ("v", "they"), ("z", "we"), ("w", "they")]
        rules = [[("y", truth), ("u", not truth), (f"k{at}", False)] for truth in (False, True) for at in range(4)]
        rules += [[("z", truth), ("v", not truth), ("k0", True)] for truth in (False, True)]
        long = (kept, turns, ["z", "u", "k1", "w"], rules)
        self.assertIs(is_kept(long, kept_for_ever(long)), True)
        short = (kept[:1], turns, ["w"], [[("k0", False), ("u", True)]])
        self.assertIs(is_lost_game(short, lost_papers(short)), True)
        self.assertEqual(lost_papers(short)[0], 2)
        # Three rounds of five marks: somewhat beyond fourteen.
        three = ([("k", False), ("b", False)], turns, ["b", "w"], [[("k", False)]])
        self.assertEqual(lost_papers(three)[0], 3)
        self.assertIs(is_lost_game(three, lost_papers(three)), True)


if __name__ == "__main__":
    unittest.main()
