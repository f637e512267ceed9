import random
import re
import unittest
from itertools import combinations, product

from marksinturn import errors, refusals
from marksinturn.clausesolving import Solving
from marksinturn.copies import beats, copied, copies_of, is_team_paper, lot_of, thin_lot
from marksinturn.countingways import count_ways
from marksinturn.literals import truth_bit
from marksinturn.marksums import sum_clauses
from marksinturn.questions import Question
from marksinturn.teams import Team, is_team_policy, team_fails, team_sets
from marksinturn.teamsolving import forced_copies, in_line, team_count, team_of, team_solved
from tests.plain import any_objects, as_lists, as_tuples, questions, raised, same, spoil, tells, told_alike, value
from tests.plainsums import made_sums
from tests.plainteams import (
    all_copies, all_ways, copied_by_words, is_paper_by_words, keeps_at, made_team, made_team_clauses, seen_at, settings_of,
    teams_with_clauses, wins_at,
)

TEAM = Team(["a", "b"], [("x", ["a"]), ("y", ["b"])])
APART = [
    [("a", not a), ("b", not b), ("x", not x), ("y", not y)]
    for a, b, x, y in product([False, True], repeat=4) if (x != y) != (a and b)
]
COPYING = [[("x", x), ("a", not x)] for x in (True, False)] + [[("y", y), ("b", not y)] for y in (True, False)]
CROSSED = [[("x", x), ("b", not x)] for x in (True, False)]
EVERY = [[False, False], [False, True], [True, False], [True, True]]


def wrong_at(thing, is_right):
    """The index of the first thing that is not right; 0 for no list, None if all are right."""
    if not isinstance(thing, (list, tuple)):
        return 0
    return next((index for index, one in enumerate(thing) if not is_right(one, thing[:index])), None)


def is_new_name(one, ahead):
    return isinstance(one, str) and re.fullmatch("[a-z][a-z0-9]{0,7}", one) is not None and one not in ahead


def is_our_clause(one, _):
    if not isinstance(one, (list, tuple)) or any(not isinstance(two, (list, tuple)) or len(two) != 2 for two in one):
        return False
    marks = [two[0] for two in one]
    return all(mark in ("a", "b", "x", "y") and type(two[1]) is bool for mark, two in zip(marks, one)) and len(set(marks)) == len(marks)


def made_policy_of(source, team):
    policy = {}
    for name, seen in team.ours():
        policy[name] = [
            ([(mark, source.random() < 0.5) for mark in source.sample(seen, source.randint(0, len(seen)))], source.random() < 0.5)
            for _ in range(source.randint(0, 3))
        ]
    return policy


def function_at(function, truths):
    for literals, told in function:
        if all(truths[mark] == side for mark, side in literals):
            return told
    return False


class TeamTest(unittest.TestCase):
    def test_what_it_holds(self):
        theirs, ours = ["b", "a", "c"], [("z", ["c", "b"]), ("x", []), ["y", ("a",)]]
        for shape in (as_lists, as_tuples):
            team = Team(theirs=shape(theirs), ours=shape(ours))
            self.assertTrue(same(team.theirs(), theirs))
            self.assertTrue(same(team.ours(), [("z", ["b", "c"]), ("x", []), ("y", ["a"])]))
            self.assertEqual(team, Team(theirs, ours))
        kept = Team(theirs, ours)
        spoil(kept.theirs())
        spoil(kept.ours())
        self.assertEqual(kept, team)
        spoil(theirs)
        spoil(ours)
        self.assertEqual(kept, team)
        self.assertTrue(same((Team([], []).theirs(), Team((), ()).ours()), ([], [])))

    def test_equal(self):
        self.assertEqual(TEAM, Team(["a", "b"], [("x", ["a"]), ("y", ["b"])]))
        for theirs, ours in [
            (["b", "a"], [("x", ["a"]), ("y", ["b"])]), (["a", "b"], [("y", ["b"]), ("x", ["a"])]),
            (["a", "b"], [("x", ["a", "b"]), ("y", ["b"])]), (["a", "b", "c"], [("x", ["a"]), ("y", ["b"])]), (["a", "b"], [("x", ["a"])]),
        ]:
            self.assertNotEqual(TEAM, Team(theirs, ours))
        for thing in any_objects():
            self.assertFalse(Team(["q"], []) == thing)
            self.assertTrue(Team(["q"], []) != thing)

    def test_errors(self):
        for thing in any_objects():
            wrong = wrong_at(thing, is_new_name)
            if wrong is not None:
                raised(self, refusals.BadTheirNames, Team, thing, None, index=wrong)
            if not isinstance(thing, (list, tuple)) or thing:
                raised(self, refusals.BadOurs, Team, [], thing, index=0)
            if not isinstance(thing, str) or thing in ("", "we a\n", "0"):
                raised(self, refusals.BadTheirNames, Team, ["a", "b", thing], None, index=2)
                raised(self, refusals.BadOurs, Team, ["a"], [("x", []), (thing, []), None], index=1)
            if thing not in ([], ()):
                raised(self, refusals.BadOurs, Team, ["q"], [("x", []), ("y", thing)], index=1)
        for theirs, index in [(["a", "a"], 1), (["a", "A"], 1), (["a", "a1234567"], None), (["a", "a12345678"], 1), (["1a"], 0)]:
            if index is None:
                Team(theirs, [])
            else:
                raised(self, refusals.BadTheirNames, Team, theirs, None, index=index)
        for ours, index in [
            ([("a", [])], 0), ([("x", []), ("x", [])], 1), ([("x", ["a", "a"])], 0), ([("x", ["x"])], 0), ([("x", ["a"], 1)], 0),
            ([("x",)], 0), ([("x", "a")], 0), ([("x", ["b"]), ("y", ["x"])], 1), (["xa"], 0), ("xa", 0), ([("x", ["z"])], 0),
        ]:
            raised(self, refusals.BadOurs, Team, ["a", "b"], ours, index=index)


class PolicyTest(unittest.TestCase):
    def test_sets_and_fails(self):
        source = random.Random(1300)
        fails = {True: 0, False: 0}
        for team, clauses in teams_with_clauses(source, 300, theirs=3, ours=3, most=3):
            policy = made_policy_of(source, team)
            self.assertIs(told_alike(self, is_team_policy, team=team, thing=policy), True)
            worst = None
            for setting in settings_of(team):
                truths = dict(zip(team.theirs(), setting))
                ours = [function_at(policy[name], truths) for name, _ in team.ours()]
                self.assertTrue(same(told_alike(self, team_sets, team=team, policy=policy, setting=setting), ours))
                truths.update(zip([name for name, _ in team.ours()], ours))
                for index, clause in enumerate(clauses):
                    if worst is None and not keeps_at([clause], truths):
                        worst = (setting, index)
            told = told_alike(self, team_fails, team=team, clauses=clauses, policy=policy)
            self.assertTrue(same(told, worst))
            fails[told is None] += 1
        self.assertGreater(min(fails.values()), 30)

    def test_policies(self):
        right = {"x": [([("a", True)], True), ([], False)], "y": []}
        self.assertTrue(is_team_policy(TEAM, right))
        self.assertTrue(is_team_policy(TEAM, {"y": [], "x": ()}))
        for thing in any_objects() + [
            {"x": []}, {"x": [], "y": [], "z": []}, {"x": [], "a": []}, {"x": [([("b", True)], True)], "y": []},
            {"x": [([("x", True)], True)], "y": []}, {"x": [([("a", True), ("a", True)], True)], "y": []}, {"x": [([], 1)], "y": []},
            {"x": [([("a", 1)], True)], "y": []}, {"x": [([("a",)], True)], "y": []}, {"x": [[]], "y": []}, {"x": None, "y": []},
            {"x": [([], True, True)], "y": []}, {"x": "", "y": []},
        ]:
            self.assertIs(is_team_policy(TEAM, thing), False)
            raised(self, refusals.BadTeamPolicy, team_sets, TEAM, thing, None, policy=thing)
            raised(self, refusals.BadTeamPolicy, team_fails, TEAM, [], thing, policy=thing)
        self.assertTrue(is_team_policy(Team([], []), {}))

    def test_errors(self):
        for thing in any_objects():
            if not isinstance(thing, Team):
                for ask in (
                    lambda t: is_team_policy(t, None), lambda t: team_sets(t, None, None), lambda t: team_fails(t, None, None),
                    lambda t: copied(t, None, None), lambda t: is_team_paper(t, None, None), lambda t: beats(t, None, None),
                    lambda t: thin_lot(t, None, None), copies_of, lambda t: team_solved(t, None), lambda t: team_count(t, None),
                    lambda t: forced_copies(t, None), lambda t: in_line(t, None),
                ):
                    raised(self, refusals.BadTeam, ask, thing, team=thing)
            raised(self, refusals.BadSetting, team_sets, TEAM, {"x": [], "y": []}, thing, setting=thing)
            raised(self, refusals.BadSetting, copied, TEAM, [], thing, setting=thing)
            for ask in (
                lambda c: team_fails(TEAM, c, None), lambda c: copied(TEAM, c, None), lambda c: is_team_paper(TEAM, c, None),
                lambda c: beats(TEAM, c, None), lambda c: thin_lot(TEAM, c, None), lambda c: team_solved(TEAM, c),
                lambda c: team_count(TEAM, c), lambda c: forced_copies(TEAM, c), lambda c: in_line(TEAM, c),
            ):
                wrong = wrong_at(thing, is_our_clause)
                if wrong is not None:
                    raised(self, refusals.BadClauses, ask, thing, index=wrong)
                if not is_our_clause(thing, None):
                    raised(self, refusals.BadClauses, ask, [[], [("x", True)], thing, None], index=2)
        for setting in ([True], [True] * 3, [True, 1], [True, None]):
            raised(self, refusals.BadSetting, team_sets, TEAM, {"x": [], "y": []}, setting, setting=setting)
        raised(self, refusals.BadClauses, team_solved, TEAM, [[("x", True), ("x", False)]], index=0)
        raised(self, refusals.BadClauses, team_solved, TEAM, [[("x", True)], [("z", False)]], index=1)


class CopiesTest(unittest.TestCase):
    def test_copied(self):
        source = random.Random(1310)
        for team, clauses in teams_with_clauses(source, 100, theirs=3, ours=4):
            self.assertTrue(same(told_alike(self, copies_of, team=team), all_copies(team)))
            for setting in settings_of(team):
                pairs = [(index, copied_by_words(team, clause, setting)) for index, clause in enumerate(clauses)]
                told = told_alike(self, copied, team=team, clauses=clauses, setting=setting)
                self.assertTrue(same(told, [one for one in pairs if one[1] is not None]))
        told = copied(TEAM, [[("y", True), ("a", True), ("x", False)], [("a", False)], []], (False, True))
        self.assertTrue(same(told, [(0, [(("x", (False,)), False), (("y", (True,)), True)]), (2, [])]))
        self.assertEqual(copies_of(Team([], [("y", []), ("x", [])])), [("x", ()), ("y", ())])

    def test_papers_by_their_words(self):
        source = random.Random(1320)
        many = {True: 0, False: 0}
        for team, clauses in teams_with_clauses(source, 250, theirs=2, ours=3, most=9):
            word, paper = team_solved(team, clauses)
            if word == "won":
                continue
            for _ in range(12):
                bent = [list(row) for row in paper]
                row = source.choice(bent)
                what = source.randrange(6)
                if what == 0 and row[0] == "copied" and row[1]:
                    row[1] = list(row[1])
                    at = source.randrange(len(row[1]))
                    row[1][at] = not row[1][at]
                elif what == 1:
                    row[2] = source.choice([row[2] + 1, max(0, row[2] - 1), 99])
                elif what == 2 and row[0] == "join":
                    row[1], row[2] = row[2], row[1]
                elif what == 3 and row[0] == "join":
                    row[3] = source.choice(all_copies(team))
                elif what == 4:
                    bent.insert(source.randint(0, len(bent)), source.choice(bent))
                elif what == 5:
                    bent.pop(source.randrange(len(bent)))
                right = is_paper_by_words(team, clauses, bent)
                many[right] += 1
                self.assertIs(is_team_paper(team, clauses, bent), right)
                self.assertIs(is_team_paper(team, clauses, as_tuples(bent)), right)
        self.assertGreater(min(many.values()), 200)

    def test_no_copy_with_both_truths(self):
        team = Team([], [("x", []), ("y", [])])
        clauses = [[("x", False), ("y", True)], [("x", True), ("y", False)], [("y", False)], [("y", True)]]
        rows = [("copied", [], 0), ("copied", [], 1), ("join", 0, 1, ("x", ()))]
        end = [("copied", [], 2), ("copied", [], 3), ("join", 2, 3, ("y", ()))]
        self.assertFalse(is_team_paper(team, clauses, rows + end))
        self.assertTrue(is_team_paper(team, clauses, end[:2] + [("join", 0, 1, ("y", ()))]))
        self.assertTrue(is_team_paper(team, clauses, end[:2] + [["join", 0, 1, ["y", []]]]))
        for row in [
            ("join", 1, 0, ("y", ())), ("join", 0, 2, ("y", ())), ("join", 0, 1, ("x", ())), ("join", 0, 1, ("y", (True,))),
            ("join", False, True, ("y", ())), ("join", 0, 1, ("z", ())), ("join", 0, 1, "y"), ("join", 0, 1), ("drop", 0, 1, ("y", ())),
            ("join", -2, -1, ("y", ())), ("copied", [], 2), None, ("copied", [], 4), ("copied", [True], 0), ("copied", [], True),
            ("copied", None, 0), ("copied", [], -1),
        ]:
            self.assertFalse(is_team_paper(team, clauses, end[:2] + [row]), row)
        self.assertFalse(is_team_paper(team, clauses, []))
        for thing in any_objects():
            self.assertIs(is_team_paper(TEAM, [[]], thing), False)
            self.assertIs(is_team_paper(TEAM, [[]], [thing]), False)
        self.assertIs(is_team_paper(TEAM, [[]], [("copied", [True, False], 0)]), True)
        met = [[("a", True)]]
        self.assertIs(is_team_paper(TEAM, met, [("copied", [True, False], 0)]), False)
        self.assertIs(is_team_paper(TEAM, met, [("copied", [False, False], 0)]), True)

    def test_lots_of_papers(self):
        rows = [
            ("copied", [True], 7), ("join", 3, 900, ("what it is", (True, False))), ["copied", (False, True), 0], ("copied", [], 0),
            ("copied", [True], 0),
        ]
        told = told_alike(self, lot_of, paper=rows)
        self.assertTrue(same(told, [[], [False, True], [True]]))
        self.assertTrue(same(lot_of([]), []))
        self.assertTrue(same(lot_of(()), []))
        for thing in any_objects():
            if thing not in ([], ()):
                raised(self, refusals.BadTeamPaper, lot_of, thing, paper=thing)
            paper = rows + [thing]
            raised(self, refusals.BadTeamPaper, lot_of, paper, paper=paper)
        for row in [
            ("copied", [1], 0), ("copied", "", 0), ("copied", [], -1), ("copied", [], True), ("copied", []), ("join", 0, 1, ("x", "")),
            ("join", 0, 1, (1, [])), ("join", 0, -1, ("x", [])), ("join", 0, None, ("x", [])), ("join", 0, 1, ("x", [0])), ("join", 0, 1),
            ("joined", 0, 1, ("x", [])), ("join", 0, 1, ["x"]), ("join", True, 1, ("x", [])),
        ]:
            paper = [row]
            raised(self, refusals.BadTeamPaper, lot_of, paper, paper=paper)


class SolvedTest(unittest.TestCase):
    def test_example(self):
        word, paper = told_alike(self, team_solved, team=TEAM, clauses=APART)
        self.assertEqual(word, "lost")
        self.assertTrue(is_team_paper(TEAM, APART, paper))
        self.assertEqual(lot_of(paper), EVERY)
        self.assertTrue(same(told_alike(self, thin_lot, team=TEAM, clauses=APART, order=EVERY), EVERY))
        for lot in combinations(EVERY, 3):
            self.assertIs(told_alike(self, beats, team=TEAM, clauses=APART, lot=list(lot)), False)
        self.assertIs(beats(TEAM, APART, EVERY), True)
        self.assertEqual(told_alike(self, team_count, team=TEAM, clauses=COPYING), 1)
        forced = told_alike(self, forced_copies, team=TEAM, clauses=COPYING)
        self.assertTrue(same(forced, {(name, (truth,)): truth for name in "xy" for truth in (False, True)}))
        word, policy = told_alike(self, team_solved, team=TEAM, clauses=COPYING)
        self.assertEqual(word, "won")
        self.assertEqual([team_sets(TEAM, policy, setting) for setting in EVERY], EVERY)
        self.assertIs(beats(TEAM, CROSSED, [[False, False], [False, True]]), True)
        self.assertEqual(thin_lot(TEAM, CROSSED, EVERY[::-1]), EVERY[:2])
        self.assertEqual(thin_lot(TEAM, CROSSED, EVERY), EVERY[2:])
        self.assertEqual(team_solved(TEAM, CROSSED)[0], "lost")

    def test_just_one(self):
        source = random.Random(1330)
        words = {"won": 0, "lost": 0}
        for team, clauses in teams_with_clauses(source, 300, most=9):
            ways = [way for way in all_ways(team) if wins_at(team, clauses, way, settings_of(team))]
            word, thing = told_alike(self, team_solved, team=team, clauses=clauses)
            self.assertEqual(word, "won" if ways else "lost")
            words[word] += 1
            if word == "won":
                self.assertTrue(is_team_policy(team, thing))
                self.assertEqual(list(thing), [name for name, _ in team.ours()])
                self.assertIsNone(team_fails(team, clauses, thing))
            else:
                self.assertTrue(is_paper_by_words(team, clauses, thing))
                self.assertIs(is_team_paper(team, clauses, thing), True)
                self.assertIs(beats(team, clauses, lot_of(thing)), True)
            self.assertEqual(told_alike(self, team_count, team=team, clauses=clauses), len(ways))
            forced = {copy: ways[0][copy] for copy in all_copies(team) if len({way[copy] for way in ways}) == 1} if ways else {}
            self.assertTrue(same(told_alike(self, forced_copies, team=team, clauses=clauses), forced))
        self.assertGreater(min(words.values()), 60)

    def test_lots(self):
        source = random.Random(1340)
        sizes = {}
        for team, clauses in teams_with_clauses(source, 150, most=8):
            if source.random() < 0.6:
                names = team.theirs() + [name for name, _ in team.ours()]
                clauses = [clause for one in made_sums(source, names, 3) for clause in sum_clauses(one)]
            every = settings_of(team)
            for size in range(len(every) + 1):
                for lot in combinations(every, size):
                    beaten = not any(wins_at(team, clauses, way, lot) for way in all_ways(team))
                    self.assertIs(beats(team, clauses, list(lot)), beaten)
            order = source.sample(every, len(every))
            left = thin_lot(team, clauses, order)
            if not beats(team, clauses, every):
                self.assertIsNone(left)
                continue
            by_words = list(every)
            for setting in order:
                others = [one for one in by_words if one != setting]
                if not any(wins_at(team, clauses, way, others) for way in all_ways(team)):
                    by_words = others
            self.assertTrue(same(left, by_words))
            self.assertIs(beats(team, clauses, left), True)
            for one in left:
                self.assertIs(beats(team, clauses, [other for other in left if other != one]), False)
            sizes[len(left)] = sizes.get(len(left), 0) + 1
        self.assertLessEqual({1, 2}, set(sizes))

    def test_bad_lots_and_orders(self):
        for thing in any_objects():
            if thing not in ([], ()):
                raised(self, refusals.BadLot, beats, TEAM, [], thing, lot=thing)
            raised(self, refusals.BadOrder, thin_lot, TEAM, [], thing, order=thing)
        for lot in ([[True, True], [True, False]], [[True, True], [True, True]], [[True]], [[True, 1]], [[True, True], None]):
            raised(self, refusals.BadLot, beats, TEAM, [], lot, lot=lot)
        for order in (EVERY[:3], EVERY + EVERY[:1], EVERY[:3] + EVERY[:1], EVERY[:3] + [[True]], EVERY[:3] + [None]):
            raised(self, refusals.BadOrder, thin_lot, TEAM, [], order, order=order)
        self.assertIsNone(thin_lot(TEAM, [], EVERY))

    def test_edges(self):
        empty = Team([], [])
        self.assertTrue(same(team_solved(empty, []), ("won", {})))
        self.assertTrue(same(team_solved(empty, [[]]), ("lost", [("copied", [], 0)])))
        self.assertEqual((team_count(empty, []), team_count(empty, [[]]), copies_of(empty), forced_copies(empty, [[]])), (1, 0, [], {}))
        self.assertEqual((beats(empty, [[]], []), beats(empty, [[]], [[]]), thin_lot(empty, [[]], [[]])), (False, True, [[]]))
        theirs = Team(["u", "v"], [])
        self.assertEqual(team_solved(theirs, [[("u", True), ("v", True)]]), ("lost", [("copied", [False, False], 0)]))
        self.assertTrue(same(team_solved(theirs, [[("u", True), ("v", True)]])[1], [("copied", [False, False], 0)]))
        self.assertEqual(team_count(Team(["u"], [("x", ["u"]), ("y", [])]), []), 8)
        self.assertEqual(forced_copies(TEAM, []), {})

    def test_at_the_limits(self):
        source = random.Random(1350)
        for _ in range(25):
            team = Team(["t", "u", "v", "w"], [(name, source.sample("tuvw", source.randint(2, 4))) for name in "abcde"])
            clauses = made_team_clauses(source, team, 24)
            word, thing = team_solved(team, clauses)
            every = settings_of(team)
            if word == "won":
                self.assertIsNone(team_fails(team, clauses, thing))
                self.assertIsNone(thin_lot(team, clauses, every))
            else:
                self.assertTrue(is_team_paper(team, clauses, thing))
                self.assertLess(len(thing), 2000)
                self.assertIs(beats(team, clauses, thin_lot(team, clauses, every[::-1])), True)
            self.assertIs(bool(team_count(team, clauses)), word == "won")
            forced_copies(team, clauses)

    def test_hard_ones(self):
        """Sums that hang together in a ring, each of them through marks that few see."""
        names = ["a", "b", "c", "d"]
        ours = [("v", ["a", "b"]), ("w", ["b", "c"]), ("x", ["c", "d"]), ("y", ["d", "a"]), ("z", ["a", "c"])]
        team = Team(names, ours)
        clauses = []
        for some, truth in [("avw", False), ("bwx", False), ("cxy", False), ("dyv", False), ("abcd", True)]:
            for sides in product([False, True], repeat=len(some)):
                if sum(not side for side in sides) % 2 != truth:
                    clauses.append(list(zip(some, sides)))
        word, paper = team_solved(team, clauses)
        self.assertEqual(word, "lost")
        self.assertTrue(is_team_paper(team, clauses, paper))


class MoreSeenTest(unittest.TestCase):
    def test_in_line(self):
        source = random.Random(1360)
        told = {True: 0, False: 0}
        for _ in range(300):
            team = made_team(source, theirs=3, ours=3)
            clauses = made_team_clauses(source, team, 5)
            ours = team.ours()
            sees_more = all(set(one[1]) <= set(other[1]) for one, other in combinations(ours, 2))
            question = told_alike(self, in_line, team=team, clauses=clauses)
            self.assertIs(question is not None, sees_more)
            told[sees_more] += 1
            if question is None:
                continue
            marks, stood = [], []
            for name, seen in ours:
                marks += [(one, "they") for one in team.theirs() if one in seen and one not in stood] + [(name, "we")]
                stood += seen
            marks += [(one, "they") for one in team.theirs() if one not in stood]
            self.assertEqual(question, Question(marks, clauses, []))
            self.assertIs(value(question, []) == 1, team_solved(team, clauses)[0] == "won")
        self.assertGreater(min(told.values()), 80)

    def test_team_of(self):
        for question in questions(1370, 200, most=5, chance=False, guards=False):
            team = told_alike(self, team_of, question=question)
            marks = question.marks()
            self.assertEqual(team.theirs(), [name for name, hand in marks if hand == "they"])
            ours = [(name, [other for other, by in marks[:at] if by == "they"]) for at, (name, hand) in enumerate(marks) if hand == "we"]
            self.assertTrue(same(team.ours(), ours))
            word = team_solved(team, question.wishes())[0]
            self.assertEqual(word == "won", value(question, []) == 1)

    def test_team_of_errors(self):
        for thing in any_objects():
            if not isinstance(thing, Question):
                raised(self, errors.BadQuestion, team_of, thing, question=thing)
        for question in (Question([("a", (1, 2))], [], []), Question([], [], [[]]), Question([("a", "we")], [], [[("a", True)]])):
            raised(self, refusals.NoTeam, team_of, question, question=question)

    def test_more_seen(self):
        source = random.Random(1380)
        for team, clauses in teams_with_clauses(source, 150, most=6):
            more = Team(team.theirs(), [(name, team.theirs()) for name, _ in team.ours()])
            less = Team(team.theirs(), [(name, seen[:-1]) for name, seen in team.ours()])
            word = team_solved(team, clauses)[0]
            if word == "won":
                self.assertEqual(team_solved(more, clauses)[0], "won")
                self.assertEqual(team_solved(team, clauses[1:])[0], "won")
            else:
                self.assertEqual(team_solved(less, clauses)[0], "lost")


class SolvingTest(unittest.TestCase):
    def test_against_all_ways(self):
        source = random.Random(1390)
        ends = {True: 0, False: 0}
        for _ in range(400):
            many = source.randint(0, 7)
            codes = []
            for _ in range(source.randint(0, 5 * many + 1)):
                places = source.sample(range(many), min(many, source.randint(0 if source.random() < 0.02 else 1, 3)))
                codes.append(sum(truth_bit(place, source.random() < 0.5) for place in places))
            ways = 0
            for truths in product([False, True], repeat=many):
                held = sum(truth_bit(place, truth) for place, truth in enumerate(truths))
                ways += all(code & held for code in codes)
            self.assertEqual(count_ways(many, codes), ways)
            solving = Solving(many, codes)
            self.assertIs(solving.last is None, ways > 0)
            ends[ways > 0] += 1
            if ways:
                self.assertTrue(all(code & solving.held for code in codes))
                continue
            made = []
            for code, how in solving.made():
                if how[0] == "given":
                    self.assertEqual(code, codes[how[1]])
                else:
                    no, yes = truth_bit(how[3], False), truth_bit(how[3], True)
                    self.assertTrue(made[how[1]] & no and made[how[2]] & yes)
                    self.assertEqual(code, (made[how[1]] | made[how[2]]) & ~(no | yes))
                made.append(code)
            self.assertEqual(made[-1], 0)
        self.assertGreater(min(ends.values()), 100)

    def test_counted_in_parts(self):
        """More marks than are gone through at once: a chain of which just one of two neighbours may be set."""
        def chain(many):
            return [truth_bit(at, False) | truth_bit(at + 1, False) for at in range(many - 1)]

        one, other = 1, 2
        for many in range(1, 41):
            self.assertEqual(count_ways(many, chain(many)), other)
            one, other = other, one + other


class FunctionsTest(unittest.TestCase):
    def test_told_policies_look_at_what_is_seen(self):
        source = random.Random(1395)
        for team, clauses in teams_with_clauses(source, 60, theirs=3, ours=3, most=4):
            word, policy = team_solved(team, clauses)
            if word == "won":
                for name, seen in team.ours():
                    question = Question([(one, "they") for one in seen] + [(name, "we")], [], [])
                    for setting in settings_of(team):
                        position = list(seen_at(team, seen, setting))
                        index = [one for one, _ in team.ours()].index(name)
                        self.assertIs(tells(question, policy[name], position), team_sets(team, policy, setting)[index])


if __name__ == "__main__":
    unittest.main()
