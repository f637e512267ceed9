import random
import unittest

from marksinturn import errors, refusals
from marksinturn.games import is_game, round_question, unrolled
from marksinturn.marksums import neat_sums, sum_clauses
from marksinturn.questions import Question
from marksinturn.sumrounds import sums_for_ever
from tests.plain import any_objects, as_lists, as_tuples, raised, same, told_alike, value
from tests.plaingames import beginning, can_keep, lots_of_states, made_game, names_of_game, states_of
from tests.plainsums import added, made_sums, sum_holds
from tests.test_sums import NO_SUMS

KEPT = [("k", False)]
TURNS = [("u", "they"), ("y", "we"), ("v", "they")]
AS_K = [[("k", False), ("y", True)], [("k", True), ("y", False)]]
GAME = (KEPT, TURNS, ["v"], AS_K)
LOST = (KEPT, TURNS, ["v"], [[("k", False), ("u", False)]])


def unrolled_by_words(game, many):
    """The question of so many rounds, by the words of the document."""
    kept, turns, nexts, rules = game
    has = [{name: ("truth", truth) for name, truth in kept}]
    marks, wishes = [], []
    for _ in range(many):
        now = dict(has[-1])
        for name, hand in turns:
            marks.append((f"m{len(marks) + 1}", hand))
            now[name] = ("mark", marks[-1][0])
        for rule in rules:
            if any(now[mark] == ("truth", side) for mark, side in rule):
                continue
            literals = {(now[mark][1], side) for mark, side in rule if now[mark][0] == "mark"}
            if not any((mark, not side) in literals for mark, side in literals):
                wishes.append(sorted(literals, key=lambda one: int(one[0][1:])))
        has.append({name: now[other] for (name, _), other in zip(kept, nexts)})
    return marks, wishes


def made_lot(source, game):
    names = [name for name, _ in game[0]]
    return [
        [(name, source.random() < 0.5) for name in source.sample(names, source.randint(0, len(names)))] for _ in range(source.randint(0, 2))
    ]


def holds_in(lot, names, state):
    truths = dict(zip(names, state))
    return all(any(truths[mark] == side for mark, side in clause) for clause in lot)


NO_GAMES = [
    (KEPT, TURNS, ["v"]), (KEPT, TURNS, ["v"], AS_K, []), (KEPT, [], ["k"], []), (KEPT, TURNS, [], AS_K), (KEPT, TURNS, ["v", "v"], AS_K),
    (KEPT, TURNS, ["z"], AS_K), (KEPT, TURNS, "v", AS_K), (KEPT, TURNS, [None], AS_K), (KEPT, TURNS, [["v"]], AS_K),
    ([("k", 0)], TURNS, ["v"], []), ([("k",)], TURNS, ["v"], []), (["k"], TURNS, ["v"], []), ([("K", True)], TURNS, ["v"], []),
    ([("u", True)], TURNS, ["v"], []), (KEPT + KEPT, TURNS, ["v", "v"], []), (KEPT, TURNS + TURNS[:1], ["v"], []),
    (KEPT, [("u", "chance")], ["u"], []), (KEPT, [("u", (1, 2))], ["u"], []), (KEPT, [("u", None)], ["u"], []), (KEPT, ["u"], ["u"], []),
    (KEPT, TURNS, ["v"], None), (KEPT, TURNS, ["v"], [("k", True)]), (KEPT, TURNS, ["v"], [[("z", True)]]), (KEPT, TURNS, ["v"], [[("k", 1)]]),
    (KEPT, TURNS, ["v"], [[("k", True), ("k", False)]]), (KEPT, TURNS, ["v"], {}), (None, TURNS, [], []), (KEPT, None, ["k"], []), ({}, TURNS, [], []),
]


class GameTest(unittest.TestCase):
    def test_games(self):
        source = random.Random(1500)
        for _ in range(100):
            game = made_game(source)
            for shape in (as_lists, as_tuples):
                self.assertIs(is_game(thing=shape(game)), True)
        self.assertIs(is_game(([], [("u", "we")], [], [])), True)
        self.assertIs(is_game((KEPT, TURNS, ["k"], [[]])), True)
        for thing in any_objects() + NO_GAMES:
            self.assertIs(is_game(thing), False)
            raised(self, refusals.BadGame, unrolled, thing, None, game=thing)
            raised(self, refusals.BadGame, round_question, thing, None, game=thing)
            raised(self, refusals.BadGame, sums_for_ever, thing, None, game=thing)

    def test_errors(self):
        for thing in any_objects():
            if type(thing) is not int or thing < 0:
                raised(self, refusals.BadMany, unrolled, GAME, thing, many=thing)
            if thing not in ([], (), [[]]):
                raised(self, refusals.BadLot, round_question, GAME, thing, lot=thing)
            if thing not in ([], (), [([], True)]):
                raised(self, errors.BadSums, sums_for_ever, GAME, thing, index=0)
        for lot in ([[("u", True)]], [[("k", True), ("k", True)]], [[], None], [("k", True)], [[("k", 1)]]):
            raised(self, refusals.BadLot, round_question, GAME, lot, lot=lot)
        for thing in NO_SUMS + [(["z"], True), (["u", "k"], True)]:
            raised(self, errors.BadSums, sums_for_ever, GAME, [([], False), thing, None], index=1)


class UnrolledTest(unittest.TestCase):
    def test_example(self):
        question = told_alike(self, unrolled, game=LOST, many=2)
        self.assertEqual([hand for _, hand in question.marks()], ["they", "we", "they"] * 2)
        self.assertTrue(same(question.wishes(), [[("m3", False), ("m4", False)]]))
        self.assertEqual(value(question, []), 0)
        self.assertEqual(value(unrolled(LOST, 1), []), 1)
        self.assertEqual(unrolled(LOST, 0), Question([], [], []))
        self.assertEqual(value(unrolled(GAME, 2), []), 1)

    def test_by_their_words(self):
        source = random.Random(1510)
        for _ in range(300):
            game = made_game(source)
            for many in range(4):
                question = told_alike(self, unrolled, game=game, many=many)
                marks, wishes = unrolled_by_words(game, many)
                self.assertTrue(same(question.marks(), marks))
                self.assertTrue(same(question.wishes(), wishes))
                self.assertEqual(question.guards(), [])

    def test_it_holds(self):
        source = random.Random(1520)
        ends = {True: 0, False: 0}
        for _ in range(120):
            game = made_game(source)
            lots = lots_of_states(game)
            for many in range(min(4, 9 // len(game[1]) + 1)):
                kept = beginning(game) in lots[min(many, len(lots) - 1)]
                self.assertIs(value(unrolled(game, many), []) == 1, kept)
                ends[kept] += many > 1
        self.assertGreater(min(ends.values()), 50)

    def test_what_stands_for_marks(self):
        turns = [("u", "they"), ("y", "we")]
        kept = [("a", True), ("b", False), ("c", True)]
        swapped = (kept, turns, ["b", "a", "c"], [[("a", True), ("u", True)], [("c", False)], [("a", False), ("u", False), ("y", False)]])
        self.assertTrue(same(unrolled(swapped, 2).wishes(), [[], [("m1", False), ("m2", False)], [("m3", True)], []]))
        merging = (kept, turns, ["u", "u", "y"], [[("a", True), ("b", True)], [("a", False), ("b", True)], [("c", True), ("y", True)]])
        rules = unrolled(merging, 2).wishes()
        self.assertTrue(same(rules, [[], [("m1", True)], [("m2", True), ("m4", True)]]))
        twice = ([], turns, [], [[("u", True)], [("u", True)]])
        self.assertTrue(same(unrolled(twice, 1).wishes(), [[("m1", True)]] * 2))
        self.assertEqual(len(unrolled((KEPT, TURNS, ["v"], AS_K), 40).marks()), 120)


class RoundTest(unittest.TestCase):
    def test_by_their_words(self):
        source = random.Random(1530)
        ends = {True: 0, False: 0}
        for _ in range(300):
            game = made_game(source)
            kept, turns, nexts, rules = game
            lot = made_lot(source, game)
            question = told_alike(self, round_question, game=game, lot=lot)
            self.assertTrue(same(question.marks(), [(name, "they") for name, _ in kept] + turns))
            names = names_of_game(game)

            def ordered(clause):
                return sorted(clause, key=lambda one: names.index(one[0]))

            led = dict(zip([name for name, _ in kept], nexts))
            behind = [{(led[mark], side) for mark, side in clause} for clause in lot]
            behind = [clause for clause in behind if len({mark for mark, _ in clause}) == len(clause)]
            self.assertTrue(same(question.wishes(), [ordered(clause) for clause in rules + behind]))
            self.assertTrue(same(question.guards(), [ordered(clause) for clause in lot]))
            states = [name for name, _ in kept]
            good = [state for state in states_of(game) if holds_in(lot, states, state)]
            all_kept = all(can_keep(game, state, lambda one: one in good) for state in good)
            self.assertIs(value(question, []) == 1, all_kept)
            ends[all_kept] += 1
        self.assertGreater(min(ends.values()), 50)

    def test_edges(self):
        self.assertEqual(round_question(GAME, []), Question([("k", "they")] + TURNS, AS_K, []))
        kept = [("a", True), ("b", False)]
        game = (kept, [("u", "we")], ["u", "u"], [])
        question = round_question(game, [[("a", True), ("b", True)], [("a", True), ("b", False)], []])
        self.assertTrue(same(question.wishes(), [[("u", True)], []]))
        self.assertEqual(len(question.guards()), 3)
        swapped = round_question((kept, [("u", "we")], ["b", "a"], []), [[("a", True), ("b", False)]])
        self.assertTrue(same(swapped.wishes(), [[("a", False), ("b", True)]]))


class SumsForEverTest(unittest.TestCase):
    def test_by_going_through_states(self):
        source = random.Random(1540)
        ends = {}
        for _ in range(600):
            game = made_game(source, kept=3)
            names = names_of_game(game)
            sums = made_sums(source, names, 3)

            def is_kept(_, truths):
                return all(sum_holds(one, truths) for one in sums)

            lots = lots_of_states(game, is_kept)
            told = told_alike(self, sums_for_ever, game=game, sums=sums)
            if beginning(game) in lots[-1]:
                self.assertEqual(told[0], "kept")
                kept = [name for name, _ in game[0]]
                self.assertTrue(same(told[1], neat_sums([(name, "we") for name in kept], told[1])))
                held = [state for state in states_of(game) if all(sum_holds(one, dict(zip(kept, state))) for one in told[1])]
                self.assertEqual(held, lots[-1])
            else:
                rounds = next(many for many, lot in enumerate(lots) if beginning(game) not in lot)
                self.assertTrue(same(told, ("lost", rounds)))
                self.assertLessEqual(rounds, len(game[0]) + 1)
            end = (told[0], min(2, told[1] if told[0] == "lost" else len(told[1])))
            ends[end] = ends.get(end, 0) + 1
        self.assertLessEqual({("kept", 0), ("kept", 1), ("lost", 1), ("lost", 2)}, set(ends))

    def test_many_rounds(self):
        """Each kept mark hands its truth on, so it takes as many rounds as there are until one is bound to fail."""
        for many in range(1, 8):
            names = [f"k{at}" for at in range(many)]
            game = ([(name, False) for name in names], [("u", "they")], ["u"] + names[:-1], [[]])
            self.assertTrue(same(sums_for_ever(game, [([names[-1]], False)]), ("lost", many + 1)))
            ours = (game[0], [("u", "we")], game[2], [])
            self.assertTrue(same(sums_for_ever(ours, [([names[-1]], False)]), ("kept", [([name], False) for name in names])))
            self.assertTrue(same(sums_for_ever(ours, [([names[-1]], True)]), ("lost", 1)))

    def test_edges(self):
        lone = ([], [("u", "they")], [], [])
        self.assertTrue(same(sums_for_ever(lone, []), ("kept", [])))
        self.assertTrue(same(sums_for_ever(lone, [(["u"], True)]), ("lost", 1)))
        self.assertTrue(same(sums_for_ever(lone, [([], True)]), ("lost", 1)))
        self.assertTrue(same(sums_for_ever(GAME, [(["k", "y"], False)]), ("kept", [])))
        self.assertTrue(same(sums_for_ever(GAME, [(["k"], False)]), ("lost", 2)))
        self.assertEqual(added([(["k"], True), (["k"], True)], ["k"]), ([], False))
        self.assertEqual(sum_clauses(([], False)), [])


if __name__ == "__main__":
    unittest.main()
