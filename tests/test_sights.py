import random
import unittest
from itertools import chain, combinations

from marksinturn import refusals
from marksinturn.copies import beats
from marksinturn.marksums import sum_clauses
from marksinturn.sights import least_sights, team_seeing
from marksinturn.teams import Team
from marksinturn.teamsolving import team_solved
from marksinturn.teamsums import must_see
from tests.plain import any_objects, as_tuples, raised, same, told_alike
from tests.plainteams import settings_of, teams_with_clauses

CLAUSES = [[("y", True), ("x", False)], [("y", False), ("x", True)]]
LONE = Team(["x"], [("y", [])])


def every_sight(team):
    return [(i, j) for i in range(len(team.ours())) for j in range(len(team.theirs()))]


def all_lists(things):
    return [list(one) for one in chain.from_iterable(combinations(things, size) for size in range(len(things) + 1))]


def seeing(team, sights):
    return Team(team.theirs(), [(name, [team.theirs()[j] for i, j in sights if i == at]) for at, (name, _) in enumerate(team.ours())])


def least_of(lists):
    return sorted(one for one in lists if not any(set(other) < set(one) for other in lists))


class SightsTest(unittest.TestCase):
    def test_example(self):
        self.assertTrue(same(told_alike(self, least_sights, team=LONE, clauses=CLAUSES), [[(0, 0)]]))
        self.assertTrue(same(least_sights(Team(["x"], [("y", ["x"])]), CLAUSES), [[(0, 0)]]))

    def test_seeing(self):
        source = random.Random(1850)
        for team, _ in teams_with_clauses(source, 100, theirs=3, ours=3):
            every = every_sight(team)
            for sights in ([], every, sorted(source.sample(every, source.randint(0, len(every))))):
                told = told_alike(self, team_seeing, team=team, sights=sights)
                self.assertEqual(told, seeing(team, sights))
                self.assertTrue(all(type(seen) is list for _, seen in told.ours()))

    def test_all_lists(self):
        source = random.Random(1860)
        found = set()
        for team, clauses in teams_with_clauses(source, 150, theirs=2, ours=2, most=4):
            if source.random() < 0.3 and len(team.ours()) + len(team.theirs()) == 4:
                clauses = clauses[:1] + sum_clauses((team.theirs() + [name for name, _ in team.ours()], False))
            every = every_sight(team)
            settings = settings_of(team)
            wins = [one for one in all_lists(every) if not beats(seeing(team, one), clauses, settings)]
            for one in wins:
                self.assertTrue(all(other in wins for other in all_lists(every) if set(other) > set(one)))
            told = told_alike(self, least_sights, team=team, clauses=clauses)
            self.assertTrue(same(told, least_of(wins)))
            self.assertEqual(told, [] if team_solved(seeing(team, every), clauses)[0] == "lost" else told or None)
            found.add((len(told) > 1, bool(told), told == [[]]))
        self.assertLessEqual({(True, True, False), (False, False, False), (False, True, True), (False, True, False)}, found)

    def test_sums(self):
        source = random.Random(1870)
        several = 0
        for team, _ in teams_with_clauses(source, 250, theirs=3, ours=2, most=0):
            names = team.theirs() + [name for name, _ in team.ours()]
            sums = []
            for _ in range(source.randint(0, 2)):
                lot = set(source.sample(names, source.randint(0, len(names))))
                sums.append(([name for name in names if name in lot], source.random() < 0.5))
            clauses = [clause for one in sums for clause in sum_clauses(one)]
            if any(not any(name in one[0] for name, _ in team.ours()) for one in sums) or len(sums) > 1 and sums[0][0] == sums[1][0]:
                continue
            wanted = [[]]
            for j, mark in enumerate(team.theirs()):
                lots = must_see(team, sums, mark)
                at = {name: i for i, (name, _) in enumerate(team.ours())}
                wanted = [one + [(at[name], j) for name in lot] for one in wanted for lot in lots]
            self.assertEqual(least_sights(team, clauses), sorted(sorted(one) for one in wanted))
            several += len(wanted) > 1
        self.assertGreater(several, 5)

    def test_at_the_limits(self):
        team = Team(["a", "b", "c"], [("x", []), ("y", [])])
        clauses = sum_clauses((["a", "b", "c", "x", "y"], False))
        told = least_sights(team, clauses)
        self.assertEqual(len(told), 8)
        self.assertEqual(told[0], [(0, 0), (0, 1), (0, 2)])
        wide = Team(["a", "b", "c", "d"], [("x", []), ("y", []), ("z", [])])
        self.assertEqual(len(least_sights(wide, sum_clauses((["a", "b", "c", "x", "y"], False)))), 8)

    def test_errors(self):
        team = Team(["a", "b"], [("x", ["a"]), ("y", [])])
        for thing in any_objects():
            if not isinstance(thing, Team):
                raised(self, refusals.BadTeam, team_seeing, thing, None, team=thing)
                raised(self, refusals.BadTeam, least_sights, thing, None, team=thing)
            if not isinstance(thing, (list, tuple)):
                raised(self, refusals.BadSights, team_seeing, team, thing, index=0)
                raised(self, refusals.BadClauses, least_sights, team, thing, index=0)
            if as_tuples(thing) not in [(1, 1), (0, 1), (1, 0)]:
                raised(self, refusals.BadSights, team_seeing, team, [(0, 0), thing, None], index=1)
            if thing not in ([], (), [("a", True)], (("a", True),)):
                raised(self, refusals.BadClauses, least_sights, team, [[], thing, None], index=1)
        for sights, index in [([(0, 2)], 0), ([(2, 0)], 0), ([(0, 1), (0, 0)], 1), ([(0, 1), [0, 1]], 1), ([(True, 0)], 0), ([(0, -1)], 0), ([(0, 0, 0)], 0), ([(0,)], 0)]:
            raised(self, refusals.BadSights, team_seeing, team, sights, index=index)


if __name__ == "__main__":
    unittest.main()
