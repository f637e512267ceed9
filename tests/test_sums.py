import random
import unittest

from marksinturn import errors, refusals
from marksinturn.marksums import neat_lots, neat_sums, sum_clauses, sums_value
from marksinturn.policies import is_policy
from marksinturn.policyworths import policy_worth
from marksinturn.questions import Question
from marksinturn.sumplays import answer_function, is_sums_lot, sums_lot, sums_played
from tests.plain import NAMES, any_objects, as_lists, pair, raised, same, tells, told_alike, value
from tests.plainsums import added, all_lots, all_truths, answer_of, made_sums, sum_holds

MARKS = [("a", "they"), ("x", "we"), ("c", (1, 2))]
SUMS = [(["a", "x"], True), (["x", "c"], False)]
MORE = SUMS + [(["c"], True)]
NO_SUMS = [
    ("a", True), (["a"], 1), (["a"], None), (["a", "a"], True), ([1], True), (["A"], True), ([["a"]], True), (["a"],), (["a"], True, True),
    "ab", None, ["a", True], ({}, True), ([None], False), ([""], True), (["toolongaa"], True),
]


def asked(seed, many, most=4):
    """Marks with fair chance, some of them not shortest, and sums of them."""
    source = random.Random(seed)
    for _ in range(many):
        names = NAMES[:source.randint(0, most)]
        odds = [(1, 2), (2, 4), (50, 100)]
        marks = [(name, source.choice(["we", "they", "we", "they", source.choice(odds)])) for name in names]
        yield marks, made_sums(source, list(names), 3)


class SumTest(unittest.TestCase):
    def test_clauses(self):
        source = random.Random(1200)
        for size in range(6):
            for truth in (False, True):
                names = source.sample(NAMES, size)
                one = (names, truth)
                clauses = told_alike(self, sum_clauses, one=one)
                self.assertEqual(len(clauses), 2 ** (size - 1) if size else int(truth))
                self.assertEqual([[mark for mark, _ in clause] for clause in clauses], [names] * len(clauses))
                sides = [[side for _, side in clause] for clause in clauses]
                self.assertEqual(sides, sorted(sides))
                for truths in all_truths(names):
                    kept = all(any(truths[mark] == side for mark, side in clause) for clause in clauses)
                    self.assertIs(kept, sum_holds(one, truths))
        self.assertTrue(same(sum_clauses(([], True)), [[]]))
        self.assertTrue(same(sum_clauses(([], False)), []))
        self.assertTrue(same(sum_clauses((["b", "a"], True)), [[("b", False), ("a", False)], [("b", True), ("a", True)]]))
        self.assertEqual(len(sum_clauses((list(NAMES[:13]), False))), 4096)

    def test_functions(self):
        source = random.Random(1210)
        for size in range(6):
            for truth in (False, True):
                names = source.sample(NAMES, size)
                answer = (names, truth)
                function = told_alike(self, answer_function, one=answer)
                question = Question([(name, "they") for name in sorted(names)] + [("z", "we")], [], [])
                self.assertTrue(is_policy(question, "we", {"z": function}))
                self.assertTrue(all([mark for mark, _ in literals] == names and told is True for literals, told in function))
                sides = [[side for _, side in literals] for literals, _ in function]
                self.assertEqual(sides, sorted(sides))
                for truths in all_truths(sorted(names)):
                    self.assertIs(tells(question, function, list(truths.values())), answer_of(answer, truths))
        self.assertTrue(same(answer_function(([], True)), [([], True)]))
        self.assertTrue(same(answer_function(([], False)), []))
        self.assertTrue(same(answer_function((["a"], True)), [([("a", False)], True)]))

    def test_errors(self):
        for thing in any_objects() + NO_SUMS:
            if thing != [[], True]:
                raised(self, refusals.BadSum, sum_clauses, thing, one=thing)
                raised(self, refusals.BadAnswer, answer_function, thing, one=thing)


class SumsTest(unittest.TestCase):
    def test_example(self):
        self.assertTrue(same(told_alike(self, neat_sums, marks=MARKS, sums=SUMS), [(["a", "x"], True), (["a", "c"], True)]))
        self.assertEqual(told_alike(self, sums_value, marks=MARKS, sums=SUMS), (1, 2))
        self.assertTrue(same(told_alike(self, sums_played, marks=MARKS, sums=SUMS), {"x": (["a"], True)}))
        self.assertIsNone(sums_lot(MARKS, SUMS))
        self.assertTrue(same(neat_sums(MARKS, MORE), [(["a"], False), (["x"], True), (["c"], True)]))
        self.assertEqual(sums_value(MARKS, MORE), (0, 1))
        self.assertTrue(same(told_alike(self, sums_lot, marks=MARKS, sums=MORE), [0, 1, 2]))
        self.assertIs(told_alike(self, is_sums_lot, marks=MARKS, sums=MORE, thing=[0, 1, 2]), True)

    def test_neat(self):
        for marks, sums in asked(1220, 400):
            names = [name for name, _ in marks]
            neat = told_alike(self, neat_sums, marks=marks, sums=sums)
            lots = told_alike(self, neat_lots, marks=marks, sums=sums)
            for truths in all_truths(names):
                kept = all(sum_holds(one, truths) for one in sums)
                self.assertIs(all(sum_holds(one, truths) for one in neat), kept)
            self.assertTrue(same([added([sums[at] for at in lot], names) for lot in lots], neat))
            for lot in lots:
                self.assertTrue(same(lot, sorted(set(lot))))
            if neat != [([], True)]:
                last = [names.index(one[0][-1]) for one in neat]
                self.assertEqual(last, sorted(set(last)))
                for one in neat:
                    self.assertEqual(sum(one[0][-1] in other[0] for other in neat), 1)
                reached = {repr(added([sums[at] for at in lot], names)) for lot in all_lots(len(sums))}
                self.assertEqual(reached, {repr(added([neat[at] for at in lot], names)) for lot in all_lots(len(neat))})

    def test_value_and_plays(self):
        many = {}
        for marks, sums in asked(1230, 500):
            wishes = [clause for one in sums for clause in sum_clauses(one)]
            question = Question(marks, wishes, [])
            number = sums_value(marks, sums)
            self.assertTrue(same(number, pair(value(question, []))))
            played = sums_played(marks, sums)
            self.assertEqual(list(played), [name for name, hand in marks if hand == "we"])
            neat = {one[0][-1]: one for one in neat_sums(marks, sums) if one[0]}
            for name, answer in played.items():
                self.assertTrue(same(answer, (neat[name][0][:-1], neat[name][1]) if name in neat else ([], False)))
            lot = sums_lot(marks, sums)
            self.assertIs(lot is None, number != (0, 1))
            if lot is None:
                policy = {name: answer_function(answer) for name, answer in played.items()}
                self.assertEqual(policy_worth(question, "we", policy, []), number)
            else:
                self.assertIs(is_sums_lot(marks, sums, lot), True)
            many[number] = many.get(number, 0) + 1
        self.assertLessEqual({(0, 1), (1, 1), (1, 2), (1, 4)}, set(many))

    def test_lots(self):
        for marks, sums in asked(1240, 200):
            names, hands = [name for name, _ in marks], dict(marks)
            for lot in all_lots(len(sums)):
                one = added([sums[at] for at in lot], names)
                bars = one[1] if not one[0] else hands[one[0][-1]] == "they"
                for thing in (lot, tuple(lot)):
                    self.assertIs(is_sums_lot(marks, sums, thing), bars)
                if len(lot) > 1:
                    self.assertIs(is_sums_lot(marks, sums, lot[::-1]), False)
                if lot:
                    self.assertIs(is_sums_lot(marks, sums, lot + lot[-1:]), False)
        never = [([], True)]
        for thing in any_objects() + [[True], [-1], ["0"], [1]]:
            self.assertIs(is_sums_lot(MARKS, never, thing), thing == [0] and type(thing) is list and thing[0] is not False)

    def test_edges(self):
        self.assertTrue(same(neat_sums([], []), []))
        self.assertTrue(same(neat_sums([], [([], False)]), []))
        self.assertTrue(same(neat_sums([], [([], False), ([], True)]), [([], True)]))
        self.assertTrue(same(neat_lots([], [([], False), ([], True)]), [[1]]))
        self.assertEqual((sums_value([], []), sums_value([], [([], True)])), ((1, 1), (0, 1)))
        self.assertTrue(same(sums_played([("x", "we")], [([], True)]), {"x": ([], False)}))
        twice = [(["a"], True), (["a"], True)]
        self.assertTrue(same(neat_sums([("a", "we")], twice), [(["a"], True)]))
        unlike = [(["a"], True), (["a"], False)]
        self.assertTrue(same(neat_sums([("a", "we")], unlike), [([], True)]))
        self.assertTrue(same(neat_lots([("a", "we")], unlike), [[0, 1]]))
        self.assertEqual(sums_lot([("a", "we")], unlike), [0, 1])
        self.assertEqual(sums_value([("a", (500, 1000)), ("b", [1, 2])], [(["a"], True), (["a", "b"], False)]), (1, 4))

    def test_at_the_limits(self):
        source = random.Random(1250)
        names = [f"m{at}" for at in range(14)]
        for _ in range(20):
            marks = [(name, source.choice(["we", "they", (3, 6)])) for name in names]
            sums = [([name for name in names if source.random() < 0.5], source.random() < 0.5) for _ in range(14)]
            neat = neat_sums(marks, sums)
            self.assertTrue(same([added([sums[at] for at in lot], names) for lot in neat_lots(marks, sums)], neat))
            self.assertIs(sums_lot(marks, sums) is None, sums_value(marks, sums) != (0, 1))
            sums_played(marks, sums)

    def test_errors(self):
        asks = [neat_sums, neat_lots, sums_value, sums_played, sums_lot, lambda m, s: is_sums_lot(m, s, None)]
        for ask in asks:
            for thing in any_objects():
                if not (isinstance(thing, (list, tuple)) and (not thing or thing == [("a", "we")])):
                    raised(self, errors.BadMarks, ask, thing, None, index=0)
                if thing not in ([], (), [([], True)]):
                    raised(self, errors.BadSums, ask, MARKS, thing, index=0)
            for thing in NO_SUMS + [(["z"], True), (["x", "a"], True)]:
                raised(self, errors.BadSums, ask, MARKS, SUMS + [thing, None], index=2)
                raised(self, errors.BadSums, ask, as_lists(MARKS), as_lists(SUMS) + [thing], index=2)
            unfair = [("a", "we"), ("b", (1, 2)), ("c", (1, 3)), ("d", (1, 4))]
            raised(self, errors.NotFair, ask, unfair, None, index=2)
            raised(self, errors.BadMarks, ask, unfair + [None], None, index=4)
            raised(self, errors.BadMarks, ask, [("a", "we"), ("a", (1, 3))], None, index=1)
            raised(self, errors.NotFair, ask, [["a", [2, 3]]], None, index=0)


if __name__ == "__main__":
    unittest.main()
