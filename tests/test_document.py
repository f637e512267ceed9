"""The examples of the document, as they stand there, and what it says over the whole program."""

import random
import unittest

from marksinturn.blundering import blunders, hints
from marksinturn.boxes import filled, is_refusal, one_box, refused
from marksinturn.boxquestions import box_team, in_order
from marksinturn.cheapest import cheapest_price, cheapest_tree, greatest_table
from marksinturn.circuits import parted_at
from marksinturn.copies import beats, lot_of
from marksinturn.counting import best_policy, counted
from marksinturn.desks import Desk
from marksinturn.earliness import enough, later_worths, too_early, worth_moved
from marksinturn.fewpolicies import few_policy
from marksinturn.fewplays import few_paper, few_rows, is_few
from marksinturn.forced import done_there, worth_through
from marksinturn.forever import is_kept, kept_for_ever, lost_papers, lost_within
from marksinturn.freeplays import first_policy
from marksinturn.freerows import found_free, free_fault
from marksinturn.games import round_question, unrolled
from marksinturn.gamestates import states_for
from marksinturn.ledback import led_back, plain_policy, plain_value
from marksinturn.losses import least_loss
from marksinturn.lossrows import loss_fault
from marksinturn.lostpapers import is_lost_paper, lost_paper
from marksinturn.marksums import neat_sums, sum_clauses, sums_value
from marksinturn.mending import least_mends
from marksinturn.numberpapers import is_paper, paper_fault
from marksinturn.numberrows import is_row
from marksinturn.operations import classes_of
from marksinturn.picks import barring_picks, enough_picks, picked_question, short_picks
from marksinturn.playtexts import play_text, read_play, read_sums, sums_text
from marksinturn.policies import bare_policy
from marksinturn.policytexts import policy_text, read_policy_text
from marksinturn.policyworths import beaten_play, policy_worth
from marksinturn.positions import certain, decider, is_play
from marksinturn.questions import Question
from marksinturn.questiontexts import question_fault, question_text, read_question
from marksinturn.readingoff import read_policy
from marksinturn.rowtexts import read_rows, rows_fault, rows_text
from marksinturn.searches import Search
from marksinturn.sights import least_sights
from marksinturn.smallersteps import smaller, steps_of
from marksinturn.solving import bounds_at, reached, solved
from marksinturn.sumplays import answer_function, sums_lot, sums_played
from marksinturn.teams import Team, team_fails
from marksinturn.teamsolving import in_line, team_count, team_of, team_solved
from marksinturn.teamsums import must_see, team_answers, team_lot
from marksinturn.trees import tree_state
from marksinturn.vectors import moved
from marksinturn.worth import rest_of, right_truths, worth_of
from tests.plain import all_positions, questions, same


class ExamplesTest(unittest.TestCase):
    TEXT = "we a\nchance 1 3 b\nthey c\nwish a !b\nwish c a\nguard !c\n"
    WISHES = [[("x", True), ("y", True)], [("x", False), ("y", False)]]

    def test_3_questions(self):
        wishes = [[("a", True), ("b", False)], [("a", True), ("c", True)]]
        question = Question([("a", "we"), ("b", (1, 3)), ("c", "they")], wishes, [[("c", False)]])
        self.assertEqual(read_question(self.TEXT), question)
        self.assertEqual(question_text(question), self.TEXT.replace("wish c a", "wish a c"))
        for text, place in {"we a\nwe a\n": (2, 5), "we a\nwish a a": (2, 7), "we a\nwish !b": (2, 7), "chance 3 2 x": (1, 11), "we": (1, 3)}.items():
            self.assertTrue(same(question_fault(text), place))

    def test_4_policies(self):
        question = read_question(self.TEXT)
        self.assertIs(is_play(question, [True, False, True]), True)
        self.assertTrue(same(decider(question, [True, False, True]), ("guard", 0)))
        self.assertTrue(same(decider(question, [False, True, False]), ("wish", 0)))
        self.assertEqual((certain(question, [True]), certain(question, [False, True, False])), ("won", "lost"))
        self.assertTrue(same(policy_worth(question, "we", {"a": [([], True)]}, []), (1, 1)))
        self.assertTrue(same(policy_worth(question, "we", {"a": []}, []), (0, 1)))

    def test_5_values(self):
        wishes = [[("a", True), ("b", True)], [("a", False), ("b", False), ("c", True)]]
        question = Question([("b", (1, 3)), ("a", "we"), ("c", "they")], wishes, [])
        self.assertTrue(same(counted(question, []), {(0, 1): 1, (1, 3): 1, (2, 3): 1, (1, 1): 1}))
        self.assertTrue(same(best_policy(question, 0), {"a": [([("b", False)], True)]}))
        self.assertTrue(same((right_truths(question, [True]), worth_through(question, [True, True]), done_there(question, [True])), ([False], (2, 3), [False])))
        rest = rest_of(question, [True])
        self.assertTrue(same((rest.marks(), rest.wishes()), ([("a", "we"), ("c", "they")], [[("a", False), ("c", True)]])))

    def test_6_rows(self):
        question = Question([("x", "they"), ("y", "we"), ("z", (1, 3))], [self.WISHES[0], [("y", False), ("z", True)]], [])
        rows = [
            ("most", 3, [("x", True), ("y", True)], (0, 1), ("lost",)), ("most", 3, [("y", False), ("z", True)], (0, 1), ("lost",)), ("most", 3, [], (1, 1), ("any",)),
            ("most", 2, [("y", False)], (1, 3), ("join", 1, 2)), ("most", 1, [("x", True)], (1, 3), ("join", 0, 3)), ("most", 0, [], (1, 3), ("drop", 4)),
        ]
        self.assertIs(is_row(question, rows[0]), True)
        self.assertIs(is_paper(question, rows), True)
        self.assertTrue(same(paper_fault(question, rows[:5] + [("most", 0, [], (0, 1), ("drop", 4))]), (5, "number")))

    def test_7_read_off(self):
        question = Question([("x", "they"), ("y", "we")], self.WISHES, [])
        rows = [
            ("least", 2, [("x", True), ("y", False)], (1, 1), ("won",)), ("least", 2, [("x", False), ("y", True)], (1, 1), ("won",)), ("least", 1, [("x", True)], (1, 1), ("drop", 0)),
            ("least", 1, [("x", False)], (1, 1), ("drop", 1)), ("least", 0, [], (1, 1), ("join", 3, 2)),
        ]
        self.assertTrue(same(read_policy(question, rows, "we"), {"y": [([("x", True)], False), ([("x", False)], True)]}))
        rows.append(("most", 2, [("x", False), ("y", False)], (0, 1), ("lost",)))
        self.assertTrue(same(blunders(question, rows, [True, True]), [(1, (1, 1), (0, 1))]))
        self.assertTrue(same(hints(question, rows, [True]), [False]))

    def test_8_search(self):
        question = read_question(self.TEXT)
        self.assertTrue(same((solved(question, [])[0], solved(question, [False])[0]), ((1, 1), (0, 1))))
        self.assertEqual(reached(question, [False], (1, 3))[0], "missed")

    def test_9_free_rows(self):
        question = Question([("x", "they"), ("y", "we")], self.WISHES, [])
        rows = [
            ("won", [("x", False), ("y", True)], ("start",)), ("won", [("x", False)], ("drop", 0)), ("won", [("x", True), ("y", False)], ("start",)),
            ("won", [("x", True)], ("drop", 2)), ("won", [], ("join", 1, 3)),
        ]
        self.assertIsNone(free_fault(question, rows))
        self.assertTrue(same(first_policy(question, rows), {"y": [([("x", False)], True), ([("x", True)], False)]}))
        other = Question([("y", "we"), ("x", "they")], self.WISHES, [])
        rows = [
            ("lost", [("y", True), ("x", True)], ("start",)), ("lost", [("y", False), ("x", False)], ("start",)), ("lost", [("y", True)], ("drop", 0)),
            ("lost", [("y", False)], ("drop", 1)), ("lost", [], ("join", 2, 3)),
        ]
        self.assertIsNone(free_fault(other, rows))

    def test_10_trees(self):
        wishes = [[("a", True), ("b", True)], [("a", False), ("b", False)]]
        theirs, ours = Question([("a", "they"), ("b", "we")], wishes, []), Question([("b", "we"), ("a", "they")], wishes, [])
        self.assertIsNone(cheapest_tree(theirs, "most", [1, 1]))
        tree = ("join", "a", ("drop", "b", ("leaf", "01")), ("drop", "b", ("leaf", "10")))
        self.assertTrue(same((cheapest_tree(theirs, "least", [1, 1]), cheapest_price(theirs, "least", [1, 1])), (tree, 2)))
        self.assertIsNone(cheapest_tree(ours, "least", [1, 1]))
        tree = ("join", "b", ("drop", "a", ("leaf", "00")), ("drop", "a", ("leaf", "11")))
        self.assertTrue(same((cheapest_tree(ours, "most", [1, 1]), cheapest_price(ours, "most", [1, 1])), (tree, 2)))
        table = greatest_table(ours, "most", [1, 1], 9)
        self.assertEqual({state: table[state] for state in ("--", "-0", "-1")}, {"--": 2, "-0": 2, "-1": 2})
        self.assertEqual(sorted(table.values()), [1] * 6 + [2] * 3)

    def test_11_few_plays(self):
        wishes = [[("x", True), ("z", False)], [("y", True), ("z", False)], [("z", True), ("x", False)]]
        question = Question([("x", "they"), ("y", "they"), ("z", "we")], wishes, [])
        self.assertEqual(classes_of(question), ["both", "either", "middle"])
        self.assertTrue(same([list(row) for row in few_rows(question, "both")], [[True, True], [False, True], [True, False]]))
        self.assertIs(is_lost_paper(question, "both", [(2, 2), (2, 1)]), True)
        self.assertIsNotNone(lost_paper(question, "both"))
        less = Question(question.marks(), [wishes[0], wishes[2]], [])
        self.assertIs(is_few(less, "both", [[True, True, True], [False, True, False], [True, False, True]]), True)
        self.assertIsNone(beaten_play(less, "we", few_policy(less, "both", few_paper(less, "both"))))

    def test_12_sums(self):
        marks = [("a", "they"), ("x", "we"), ("c", (1, 2))]
        sums = [(["a", "x"], True), (["x", "c"], False)]
        self.assertTrue(same(neat_sums(marks, sums), [(["a", "x"], True), (["a", "c"], True)]))
        self.assertTrue(same((sums_value(marks, sums), sums_played(marks, sums)), ((1, 2), {"x": (["a"], True)})))
        sums.append((["c"], True))
        self.assertTrue(same(neat_sums(marks, sums), [(["a"], False), (["x"], True), (["c"], True)]))
        self.assertTrue(same((sums_value(marks, sums), sums_lot(marks, sums)), ((0, 1), [0, 1, 2])))
        team = Team(["a", "b"], [("x", ["a"]), ("y", ["b"])])
        self.assertTrue(same(team_answers(team, [(["a", "b", "x", "y"], False)]), {"x": (["a"], False), "y": (["b"], False)}))
        lost = [(["a", "x"], False), (["b", "x", "y"], False)]
        self.assertTrue(same((team_answers(team, lost), team_lot(team, lost), must_see(team, lost[:1], "a")), (None, ([0, 1], "a"), [["x"]])))

    def test_13_teams(self):
        team = Team(["a", "b"], [("x", ["a"]), ("y", ["b"])])
        clauses = []
        for a, b, x, y in [[bits >> at & 1 == 1 for at in range(4)] for bits in range(16)]:
            if (x != y) != (a and b):
                clauses.append([("a", not a), ("b", not b), ("x", not x), ("y", not y)])
        four = [[a, b] for a in (False, True) for b in (False, True)]
        self.assertIs(beats(team, clauses, four), True)
        self.assertFalse(any(beats(team, clauses, [one for one in four if one != other]) for other in four))

        def alike(one, other):
            return [[(one, True), (other, False)], [(one, False), (other, True)]]

        self.assertEqual(team_count(team, alike("x", "a") + alike("y", "b")), 1)
        word, paper = team_solved(team, alike("x", "b"))
        self.assertEqual(word, "lost")
        self.assertIs(beats(team, alike("x", "b"), [[False, False], [False, True]]), True)
        self.assertIs(beats(team, alike("x", "b"), lot_of(paper)), True)

    def test_14_vectors(self):
        wishes = self.WISHES + [[("c", True), ("z", True)]]
        question = Question([("x", "they"), ("c", (1, 2)), ("y", "we"), ("z", "we")], wishes, [])
        self.assertEqual((worth_of(moved(question, [2, 2]), []), enough(question, (1, 1)), too_early(question, (1, 1))), ((1, 1), [[1, 0]], [[0, 2]]))
        self.assertEqual(later_worths(question), {"y": [(1, 1)], "z": [(1, 1)]})
        first = Question([("y", "we"), ("x", "they"), ("c", (1, 2)), ("z", "we")], wishes, [])
        self.assertEqual(later_worths(first), {"y": [(0, 1), (1, 1), (1, 1)], "z": [(0, 1)]})
        self.assertEqual(worth_moved(first, 0), ((0, 1), (1, 1)))

    def test_15_picks(self):
        wishes = [[("y", True), ("x", False)], [("y", False), ("x", True)]]
        question = Question([("y", "we"), ("x", "they")], wishes, [])
        told = {family: [ask(question, family, (1, 1)) for ask in (enough_picks, barring_picks, short_picks)] for family in ("wishes", "theirs", "guards")}
        self.assertTrue(same(told, {"wishes": [[[0], [1]], [[0, 1]], [[]]], "theirs": [[[0]], [[0]], [[]]], "guards": [[], [[]], [[]]]}))
        drawn = Question([("y", "we"), ("x", (1, 2))], wishes, [])
        self.assertTrue(all(enough_picks(drawn, family, (1, 2)) == [[]] for family in ("wishes", "guards", "theirs", "chance")))
        self.assertTrue(same(least_sights(Team(["x"], [("y", ["x"])]), wishes), [[(0, 0)]]))

    def test_16_prices(self):
        question = Question([("x", "they"), ("y", "we")], [[("x", True)], [("y", True)], [("x", False), ("y", False)]], [])
        self.assertEqual([least_loss(question, [2, 3, 4], one) for one in ([False], [True], [])], [(2, 1), (3, 1), (3, 1)])
        rows = [
            ("keeps", 2, [("x", True), ("y", False)], (3, 1), ("holds", [1])), ("keeps", 2, [("x", False), ("y", True)], (2, 1), ("holds", [0])),
            ("keeps", 1, [("x", True)], (3, 1), ("drop", 0)), ("keeps", 1, [("x", False)], (2, 1), ("drop", 1)), ("keeps", 0, [], (3, 1), ("join", 3, 2)),
        ]
        self.assertIsNone(loss_fault(question, [2, 3, 4], rows))

    def test_17_smaller(self):
        question = Question([("x", "we"), ("u", "they"), ("y", "we")], [[("x", True), ("u", True)], [("u", True), ("y", True)], [("u", False), ("y", False)]], [])
        self.assertTrue(same(steps_of(question), [("pure", "x"), ("last", "wish", 0), ("joined", "y"), ("blocked", 0, "x"), ("blocked", 1, "y"), ("blocked", 2, "y")]))
        self.assertEqual((smaller(question)[0], plain_value(question)), ([("pure", "x"), ("joined", "y")], (1, 1)))
        self.assertTrue(same(plain_policy(question, "we"), {"x": [([], True)], "y": [([("u", False)], True)]}))

    def test_18_rounds(self):
        turns = [("u", "they"), ("y", "we"), ("v", "they")]
        game = ([("k", False)], turns, ["v"], [[("k", False), ("y", True)], [("k", True), ("y", False)]])
        self.assertEqual(solved(round_question(game, []), [])[0], (1, 1))
        self.assertIs(is_kept(game, ([], solved(round_question(game, []), [])[1])), True)
        lost = ([("k", False)], turns, ["v"], [[("k", False), ("u", False)]])
        self.assertEqual((lost_within(lost), len(unrolled(lost, 2).marks()), unrolled(lost, 2).wishes()), (2, 6, [[("m3", False), ("m4", False)]]))
        self.assertTrue(same((states_for(lost, 1), states_for(lost, None)), ([[False]], [])))

    def test_19_circuits(self):
        def circuit(word):
            return (["a", "b"], [("m", "box", ["a"]), ("n", word, ["m", "b"])], ["n"])

        def other(word):
            return (["a", "b"], [("n", word, ["a", "b"])], ["n"])

        self.assertTrue(same(filled(circuit("xor"), other("xor")), {"m": [False, True]}))
        self.assertTrue(same(one_box(circuit("xor"), other("and")), ("two", [False, False], [False, True])))
        rows = [("bar", [False, False], [True]), ("bar", [False, True], [False]), ("join", 0, 1)]
        self.assertIs(is_refusal(circuit("xor"), other("and"), rows), True)
        question = in_order(circuit("xor"), other("and"))
        self.assertEqual(([name for name, _ in question.marks()], worth_of(question, [])), (["a", "m", "b"], (0, 1)))
        self.assertTrue(same((parted_at(other("or"), other("and")), least_mends(other("or"), other("and"))), ([False, True], [["n"]])))

    def test_20_desk(self):
        desk = Desk([("a", "we"), ("b", "they")])
        self.assertEqual((desk.lay("wish", [("a", True), ("b", True)]), desk.settle([])), (0, (1, 1)))
        first = desk.kept()
        self.assertEqual(desk.lay("wish", [("a", False), ("b", False)]), 1)
        self.assertFalse([row for row in desk.kept() if row[0] == "least" and row in first and row[4] != ("none",)])
        self.assertEqual(desk.settle([]), (0, 1))
        desk.take(1)
        self.assertEqual((desk.kept()[:len(first)], desk.bounds([])), (first, ((1, 1), (1, 1))))

    def test_21_texts(self):
        rows = [("least", 2, [("x", True), ("y", False)], (1, 1), ("won",)), ("least", 1, [("x", True)], (1, 1), ("drop", 0))]
        self.assertEqual(rows_text(rows), "least 2 1/1 x !y : won\nleast 1 1/1 x : drop 0\n")
        self.assertEqual([rows_fault(text) for text in ("most 3 2/4 ", "most 0 1/1 x x", "least 1 1/1 : joint")], [(1, 11), (1, 15), (1, 19)])
        self.assertEqual(policy_text({"x": [([("y", True)], False), ([], True)], "z": []}), "x : no y\nx : yes\nz :\n")
        self.assertEqual(sums_text([([], True), (["a", "b"], False)]), "odd\neven a b\n")
        self.assertEqual(play_text([("x", "we"), ("y", "they")], [False]), "!x\n")


class WholeTest(unittest.TestCase):
    def test_one_value_by_all_ways(self):
        for question in questions(2800, 120, most=5):
            number = worth_of(question, [])
            self.assertEqual(max(counted(question, []), key=lambda one: one[0] / one[1]), number)
            self.assertEqual(solved(question, [])[0], number)
            search = Search(question, [[]])
            search.go(10 ** 6)
            self.assertEqual(search.meets(), [(number, number)])
            self.assertEqual(policy_worth(question, "we", best_policy(question, 0), []), number)
            desk = Desk(question.marks())
            for side, lot in (("wish", question.wishes()), ("guard", question.guards())):
                for clause in lot:
                    desk.lay(side, clause)
            self.assertEqual((desk.as_question(), desk.settle([])), (question, number))
            self.assertEqual(worth_of(smaller(question)[1], []), number)
            self.assertEqual(enough_picks(question, "wishes", number)[:1], [[]])
            self.assertEqual(picked_question(question, "wishes", []), question)
            self.assertEqual(least_loss(question, [1] * len(question.wishes()), []) == (0, 1), number == (1, 1))
            if all(isinstance(hand, str) for _, hand in question.marks()):
                self.assertEqual(found_free(question)[-1][0], {(0, 1): "lost", (1, 1): "won"}[number])
                prices = [1] * len(question.wishes())
                trees = {kind: cheapest_tree(question, kind, prices) for kind in ("most", "least")}
                self.assertEqual([kind for kind, tree in trees.items() if tree is not None], ["most"] if number == (0, 1) else ["least"])
                for kind, tree in trees.items():
                    self.assertTrue(tree is None or set(tree_state(question, kind, tree)) <= {"-"})
                if not question.guards():
                    team = team_of(question)
                    self.assertEqual(team_solved(team, question.wishes())[0] == "won", number == (1, 1))
                    self.assertEqual(worth_of(in_line(team, question.wishes()), []) == (1, 1), number == (1, 1))

    def test_by_text(self):
        for question in questions(2810, 120, most=5):
            again = read_question(question_text(question))
            self.assertEqual(again, question)
            number, paper = solved(question, [])
            rows = read_rows(rows_text(paper))
            self.assertTrue(same(rows, paper))
            self.assertIsNone(paper_fault(again, rows))
            self.assertEqual(bounds_at(again, rows, []), (number, number))
            for hand in ("we", "they"):
                policy = read_policy_text(policy_text(read_policy(question, rows, hand)))
                self.assertEqual(policy_worth(again, hand, policy, []), number)
                steps, left = smaller(question)
                behind = read_policy(left, solved(left, [])[1], hand)
                back = led_back(question, steps, hand, behind)
                self.assertEqual(policy_worth(question, hand, back, []), number)
                self.assertTrue(same(read_policy_text(policy_text(back)), bare_policy(question, hand, back)))
            for position in all_positions(question):
                self.assertEqual(read_play(question.marks(), play_text(question.marks(), position)), position)

    def test_sums_by_all_ways(self):
        source = random.Random(2820)
        for question in questions(2821, 80, most=4, clauses=0, chance=False):
            names = [name for name, _ in question.marks()]
            sums = []
            for _ in range(source.randint(0, 3)):
                lot = source.sample(names, source.randint(0, len(names)))
                sums.append(([name for name in names if name in lot], source.random() < 0.5))
            sums = read_sums(sums_text(sums))
            asked = Question(question.marks(), [clause for one in sums for clause in sum_clauses(one)], [])
            value = worth_of(asked, [])
            self.assertEqual(sums_value(question.marks(), sums), value)
            if value == (1, 1):
                policy = {name: answer_function(one) for name, one in sums_played(question.marks(), sums).items()}
                self.assertEqual(policy_worth(asked, "we", policy, []), value)

    def test_games_and_circuits_as_questions(self):
        turns = [("u", "they"), ("y", "we"), ("v", "they")]
        game = ([("k", False)], turns, ["v"], [[("k", False), ("y", True)], [("k", True), ("y", False)]])
        lot, paper = kept_for_ever(game)
        rows = read_rows(rows_text(paper))
        self.assertIs(is_kept(game, (lot, rows)), True)
        self.assertEqual([worth_of(unrolled(game, many), []) for many in range(4)], [(1, 1)] * 4)
        lost = ([("k", False)], turns, ["v"], [[("k", False), ("u", False)]])
        many, paper, other = lost_papers(lost)
        self.assertEqual((worth_of(unrolled(lost, many), []), worth_of(unrolled(lost, many - 1), [])), ((0, 1), (1, 1)))
        self.assertIsNone(paper_fault(unrolled(lost, many), read_rows(rows_text(paper))))
        self.assertIsNone(paper_fault(unrolled(lost, many - 1), other))
        circuit = (["a", "b"], [("m", "box", ["a"]), ("n", "xor", ["m", "b"])], ["n"])
        for word in ("xor", "and", "or"):
            other = (["a", "b"], [("n", word, ["a", "b"])], ["n"])
            team, clauses = box_team(circuit, other)
            told = filled(circuit, other)
            self.assertEqual(team_solved(team, clauses)[0] == "won", told is not None)
            self.assertEqual(told is None, refused(circuit, other) is not None)
            self.assertEqual(worth_of(in_order(circuit, other), []) == (1, 1), told is not None)
            if told is not None:
                functions = {"m": [([("a", False)], told["m"][0]), ([("a", True)], told["m"][1])]}
                self.assertIsNone(team_fails(team, clauses, functions))


if __name__ == "__main__":
    unittest.main()
