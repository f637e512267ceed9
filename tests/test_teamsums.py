import random
import unittest
from itertools import combinations, product

from marksinturn import errors, refusals
from marksinturn.marksums import sum_clauses
from marksinturn.sumplays import answer_function
from marksinturn.teams import Team, team_fails
from marksinturn.teamsolving import team_solved
from marksinturn.teamsums import answers_count, is_team_answers, is_team_lot, must_see, team_answers, team_lot
from tests.plain import any_objects, as_lists, raised, same, told_alike
from tests.plainsums import added, all_lots, answer_of, made_sums, sum_holds
from tests.plainteams import made_team, settings_of
from tests.test_sums import NO_SUMS

TEAM = Team(["a", "b"], [("x", ["a"]), ("y", ["b"])])
KEPT = [(["a", "b", "x", "y"], False)]
BARRED = [(["a", "x"], False), (["b", "x", "y"], False)]


def names_of(team):
    return team.theirs() + [name for name, _ in team.ours()]


def asked(seed, many, theirs=2, ours=2, most=3):
    source = random.Random(seed)
    for _ in range(many):
        team = made_team(source, theirs, ours)
        yield team, made_sums(source, names_of(team), most)


def answers_win(team, sums, answers):
    for setting in settings_of(team):
        truths = dict(zip(team.theirs(), setting))
        truths.update({name: answer_of(answer, truths) for name, answer in answers.items()})
        if not all(sum_holds(one, truths) for one in sums):
            return False
    return True


def all_answers(team):
    """Every dict from ours to answers of marks that each sees, in the team's order."""
    each = []
    for _, seen in team.ours():
        lots = [list(lot) for size in range(len(seen) + 1) for lot in combinations(seen, size)]
        each.append([(lot, truth) for lot in lots for truth in (False, True)])
    names = [name for name, _ in team.ours()]
    return [dict(zip(names, answers)) for answers in product(*each)]


def lot_bars(team, sums, lot, mark):
    marks, truth = added([sums[at] for at in lot], names_of(team))
    if mark is None:
        return (marks, truth) == ([], True)
    seers = [name for name, seen in team.ours() if mark in seen]
    return mark in marks and not any(name in marks for name in seers)


class AnswersTest(unittest.TestCase):
    def test_example(self):
        answers = told_alike(self, team_answers, team=TEAM, sums=KEPT)
        self.assertTrue(same(answers, {"x": (["a"], False), "y": (["b"], False)}))
        self.assertIsNone(team_lot(TEAM, KEPT))
        self.assertIsNone(team_answers(TEAM, BARRED))
        self.assertTrue(same(told_alike(self, team_lot, team=TEAM, sums=BARRED), ([0, 1], "a")))
        self.assertIs(told_alike(self, is_team_lot, team=TEAM, sums=BARRED, thing=([0, 1], "a")), True)
        self.assertIs(told_alike(self, is_team_answers, team=TEAM, sums=KEPT, thing=answers), True)
        self.assertTrue(same(told_alike(self, must_see, team=TEAM, sums=BARRED[:1], mark="a"), [["x"]]))
        self.assertEqual(told_alike(self, answers_count, team=TEAM, sums=KEPT), 2)

    def test_just_one(self):
        ends = {"answers": 0, "mark": 0, "never": 0}
        for team, sums in asked(1400, 400):
            answers, lot = team_answers(team, sums), team_lot(team, sums)
            self.assertIs(answers is None, lot is not None)
            clauses = [clause for one in sums for clause in sum_clauses(one)]
            self.assertEqual(team_solved(team, clauses)[0], "lost" if answers is None else "won")
            wins = [one for one in all_answers(team) if answers_win(team, sums, one)]
            self.assertEqual(answers_count(team, sums), len(wins))
            if answers is None:
                self.assertTrue(lot_bars(team, sums, *lot))
                self.assertIs(is_team_lot(team, sums, lot), True)
                self.assertTrue(same(lot[0], sorted(set(lot[0]))))
                ends["never" if lot[1] is None else "mark"] += 1
            else:
                self.assertIn(answers, wins)
                self.assertEqual(list(answers), [name for name, _ in team.ours()])
                policy = {name: answer_function(answer) for name, answer in answers.items()}
                self.assertIsNone(team_fails(team, clauses, policy))
                ends["answers"] += 1
        self.assertGreater(min(ends.values()), 30)

    def test_each_answer_and_lot(self):
        for team, sums in asked(1410, 120):
            for answers in all_answers(team):
                wins = answers_win(team, sums, answers)
                self.assertIs(is_team_answers(team, sums, answers), wins)
                turned = {name: [marks[::-1], truth] for name, (marks, truth) in reversed(list(answers.items()))}
                self.assertIs(is_team_answers(team, sums, turned), wins)
            for lot in all_lots(len(sums)):
                for mark in team.theirs() + [None]:
                    bars = lot_bars(team, sums, lot, mark)
                    self.assertIs(is_team_lot(team, sums, (lot, mark)), bars)
                    self.assertIs(is_team_lot(team, sums, [tuple(lot), mark]), bars)
                    if len(lot) > 1:
                        self.assertIs(is_team_lot(team, sums, (lot[::-1], mark)), False)
                        self.assertIs(is_team_lot(team, sums, (lot + lot[-1:], mark)), False)

    def test_must_see(self):
        many = {}
        for team, sums in asked(1420, 250, theirs=2, ours=3):
            ours = [name for name, _ in team.ours()]
            for mark in team.theirs():
                enough = []
                for lot in all_lots(len(ours)):
                    some = [ours[at] for at in lot]
                    seeing = Team(team.theirs(), [(name, [mark] if name in some else []) for name in ours])
                    if not any(lot_bars(seeing, sums, other, mark) for other in all_lots(len(sums))):
                        enough.append(lot)
                least = [lot for lot in enough if not any(set(other) < set(lot) for other in enough)]
                told = told_alike(self, must_see, team=team, sums=sums, mark=mark)
                self.assertTrue(same(told, [[ours[at] for at in lot] for lot in sorted(least)]))
                size = "none" if not told else "nobody" if told == [[]] else "several" if len(told) > 1 else "one"
                many[size] = many.get(size, 0) + 1
        self.assertEqual(set(many), {"none", "nobody", "several", "one"})

    def test_order_of_least_lots(self):
        team = Team(["a"], [("z", []), ("y", []), ("x", [])])
        self.assertTrue(same(must_see(team, [(["a", "z", "y", "x"], True)], "a"), [["z"], ["y"], ["x"]]))
        self.assertTrue(same(must_see(team, [(["a", "z", "y"], True), (["a", "x"], True)], "a"), [["z", "x"], ["y", "x"]]))
        self.assertTrue(same(must_see(team, [(["a"], True)], "a"), []))
        self.assertTrue(same(must_see(team, [], "a"), [[]]))

    def test_edges(self):
        empty = Team([], [])
        self.assertTrue(same(team_answers(empty, []), {}))
        self.assertTrue(same(team_lot(empty, [([], True)]), ([0], None)))
        self.assertEqual((answers_count(empty, []), answers_count(empty, [([], True)]), answers_count(empty, [([], False)])), (1, 0, 1))
        lone = Team([], [("x", []), ("y", [])])
        self.assertTrue(same(team_answers(lone, [(["x"], True)]), {"x": ([], True), "y": ([], False)}))
        self.assertEqual(answers_count(lone, [(["x"], True)]), 2)
        self.assertTrue(same(team_lot(lone, [(["x"], True), (["x"], False)]), ([0, 1], None)))
        theirs = Team(["a"], [])
        self.assertTrue(same(team_lot(theirs, [(["a"], True)]), ([0], "a")))
        self.assertTrue(same(team_lot(theirs, [(["a"], True), (["a"], True)]), ([0], "a")))

    def test_at_the_limits(self):
        source = random.Random(1430)
        for _ in range(30):
            theirs, ours = [f"t{at}" for at in range(7)], [f"o{at}" for at in range(7)]
            team = Team(theirs, [(name, source.sample(theirs, source.randint(4, 7))) for name in ours])
            sums = made_sums(source, names_of(team), source.choice([2, 4, 12]))
            answers, lot = team_answers(team, sums), team_lot(team, sums)
            self.assertIs(answers is None, lot is not None)
            self.assertIs(answers is None, answers_count(team, sums) == 0)
            if answers is None:
                self.assertTrue(lot_bars(team, sums, *lot))
            else:
                self.assertTrue(answers_win(team, sums, answers))
            wins = all(
                any(all(team.ours()[ours.index(name)][1].count(mark) for name in lot) for lot in must_see(team, sums, mark))
                for mark in theirs
            )
            self.assertIs(wins and (lot is None or lot[1] is not None), answers is not None)

    def test_any_object(self):
        for thing in any_objects() + [
            {"x": (["a"], False)}, {"x": (["b"], False), "y": (["b"], False)}, {"x": (["a"], 0), "y": (["b"], False)},
            {"x": (["a", "a", "a"], False), "y": (["b"], False)}, {"x": (["a"], False), "y": (["b"], False), "z": ([], False)},
            {"x": ("a", False), "y": (["b"], False)}, {"x": None, "y": (["b"], False)}, {"x": (["a"],), "y": (["b"], False)},
        ]:
            self.assertIs(is_team_answers(TEAM, KEPT, thing), False)
        self.assertIs(is_team_answers(TEAM, KEPT, {"y": (["b"], False), "x": (["a"], False)}), True)
        for thing in any_objects() + [
            ([0, 1], "b"), ([0, 1], "x"), ([0, 1], None), ([1, 0], "a"), ([0], "a"), ([0, 2], "a"), ([0, True], "a"), ([0, 1], ["a"]),
            ([0, 1],), ([0, 1], "a", 0), (None, "a"), ([], "a"), ([], None), ("01", "a"), ([0, 1], "z"),
        ]:
            self.assertIs(is_team_lot(TEAM, BARRED, thing), False)

    def test_errors(self):
        asks = [
            team_answers, team_lot, answers_count, lambda t, s: is_team_answers(t, s, None), lambda t, s: is_team_lot(t, s, None),
            lambda t, s: must_see(t, s, None),
        ]
        for ask in asks:
            for thing in any_objects():
                if not isinstance(thing, Team):
                    raised(self, refusals.BadTeam, ask, thing, None, team=thing)
                if thing not in ([], (), [([], True)]):
                    raised(self, errors.BadSums, ask, TEAM, thing, index=0)
            for thing in NO_SUMS + [(["z"], True), (["b", "a"], True), (["x", "a"], True), (["y", "x"], False)]:
                raised(self, errors.BadSums, ask, TEAM, KEPT + [thing, None], index=1)
                raised(self, errors.BadSums, ask, TEAM, as_lists(KEPT) + [thing], index=1)
        for thing in any_objects() + ["x", "y", "z", ["a"]]:
            if thing != "a":
                raised(self, refusals.NotTheirs, must_see, TEAM, KEPT, thing, mark=thing)


if __name__ == "__main__":
    unittest.main()
