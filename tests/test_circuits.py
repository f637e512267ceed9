import random
import unittest
from itertools import chain, combinations

from marksinturn import errors, refusals
from marksinturn.boxes import filled, is_filling, is_refusal, one_box, refused
from marksinturn.boxquestions import box_team, in_order
from marksinturn.circuits import is_circuit, outs_at, parted_at
from marksinturn.mending import least_mends, unmended
from marksinturn.questions import Question
from marksinturn.teams import Team, team_fails
from marksinturn.teamsolving import team_solved
from tests.plain import any_objects, as_lists, as_tuples, raised, same, told_alike, value
from tests.plaincircuits import (
    all_fillings, all_truths, boxes_of, fills, is_unlike, made_circuit, outs, run, seen_at, told_by, two_circuits, with_names,
)


def with_box(word):
    return (["a", "b"], [("m", "box", ["a"]), ("n", word, ["m", "b"])], ["n"])


def plain(word):
    return (["a", "b"], [("n", word, ["a", "b"])], ["n"])


TWO = (["a"], [("m", "box", ["a"]), ("n", "box", [])], ["m", "n"])
SEES_GATE = (["a", "b"], [("o", "not", ["a"]), ("m", "box", ["a", "o"]), ("n", "xor", ["m", "b"])], ["n"])
NO_CIRCUITS = [
    ([], [("n", "box", [])], ["n"]), (["a"], [("n", "not", ["a"])], []), (["a"], []), (["a"], [], ["a"], []), ([], [], ["a"]), (["a"], [], []), (["a", "a"], [], ["a"]), (["A"], [], ["A"]), ("a", [], ["a"]), (["a"], [], "a"),
    (["a"], {}, ["a"]), (["a"], None, ["a"]), (["a"], [], ["b"]), (["a"], [], [None]), (["a"], [], [["a"]]), (["a"], [("n", "not", ["n"])], ["a"]),
    (["a"], [("n", "not", ["a", "a"])], ["a"]), (["a"], [("n", "not", [])], ["a"]), (["a"], [("n", "and", ["a"])], ["a"]), (["a"], [("n", "nand", ["a", "a"])], ["a"]),
    (["a"], [("n", "or", ["a", "a", "a"])], ["a"]), (["a"], [("a", "not", ["a"])], ["a"]), (["a"], [("n", "not", ["a"]), ("n", "not", ["a"])], ["a"]),
    (["a"], [("N", "not", ["a"])], ["a"]), (["a"], [("n", "not", "a")], ["a"]), (["a"], [("n", "not")], ["a"]), (["a"], [("n", None, ["a"])], ["a"]),
    (["a"], [("n", "box", ["a", "a"])], ["a"]), (["a"], [("n", "box", ["a"]), ("m", "box", ["n"])], ["a"]), (["a"], [("n", "not", ["m"]), ("m", "not", ["a"])], ["a"]),
    (["a"], [("n", "box", []), ("o", "not", ["n"]), ("m", "box", ["o"])], ["a"]), (["a"], [("n", ["box"], ["a"])], ["a"]), (["a"], ["n"], ["a"]), (["a", None], [], ["a"]),
]
ABOUT_TWO = [(parted_at, ()), (filled, ()), (refused, ()), (one_box, ()), (least_mends, ()), (box_team, ()), (in_order, ()), (is_filling, (None,)), (is_refusal, (None,)), (unmended, (None,))]


class CircuitTest(unittest.TestCase):
    def test_circuits(self):
        source = random.Random(2200)
        for _ in range(200):
            circuit = made_circuit(source)
            for shape in (as_lists, as_tuples):
                self.assertIs(is_circuit(thing=shape(circuit)), True)
        for circuit in ((["a"], [], ["a", "a"]), (["a"], [("n", "xor", ["a", "a"])], ["n", "a"]), (["a"], [("n", "box", [])], ["a"]), TWO, SEES_GATE):
            self.assertIs(is_circuit(circuit), True)
        for thing in any_objects() + NO_CIRCUITS:
            self.assertIs(is_circuit(thing), False)
            raised(self, refusals.BadCircuit, outs_at, thing, None, None, circuit=thing)
            for ask, more in ABOUT_TWO:
                raised(self, refusals.BadCircuit, ask, thing, None, *more, circuit=thing)
                raised(self, refusals.BadCircuit, ask, TWO, thing, *more, circuit=thing)

    def test_outs(self):
        source = random.Random(2210)
        for _ in range(150):
            circuit = made_circuit(source)
            filling = {name: [source.random() < 0.5 for _ in range(2 ** len(parts))] for name, parts in boxes_of(circuit)}
            for truths in all_truths(len(circuit[0])):
                told = told_alike(self, outs_at, circuit=circuit, filling=filling, truths=truths)
                self.assertTrue(same(told, outs(circuit, truths, told_by(circuit, filling, truths))))

    def test_fillings_and_inputs(self):
        for thing in any_objects():
            raised(self, refusals.BadFilling, outs_at, TWO, thing, None, filling=thing)
            for filling in ({"m": thing, "n": [True]}, {"m": [True, thing], "n": [True]}):
                if type(thing) is not bool or filling["m"] is thing:
                    raised(self, refusals.BadFilling, outs_at, TWO, filling, None, filling=filling)
            if thing not in ([True],):
                raised(self, refusals.BadInputs, outs_at, TWO, {"m": [True, False], "n": [True]}, thing, truths=thing)
        for filling in ({"m": [True, False]}, {"m": [True, False], "n": []}, {"m": [True], "n": [True]}, {"m": [True, False], "n": [True], "o": []}, {"m": [True, 0], "n": [True]}):
            raised(self, refusals.BadFilling, outs_at, TWO, filling, None, filling=filling)
        for truths in ([], [True, True], [1]):
            raised(self, refusals.BadInputs, outs_at, TWO, {"n": (True,), "m": (True, False)}, truths, truths=truths)
        self.assertEqual(outs_at(TWO, {"n": (True,), "m": (True, False)}, (True,)), [False, True])

    def test_parted(self):
        source = random.Random(2220)
        found = set()
        for circuit, other in two_circuits(source, 250, boxes=0):
            wanted = [truths for truths in all_truths(len(circuit[0])) if outs(circuit, truths) != outs(other, truths)]
            told = told_alike(self, parted_at, circuit=circuit, other=other)
            self.assertTrue(same(told, wanted[0] if wanted else None))
            found.add(told is None)
        self.assertEqual(len(found), 2)
        self.assertTrue(same(parted_at(plain("or"), plain("and")), [False, True]))

    def test_unfit(self):
        unfit = [(["a"], [], ["a"]), (["a", "b"], [], ["a", "b"]), with_box("or"), (["a", "b", "c"], [], ["a"])]
        for other in unfit:
            for ask, more in [(filled, ()), (refused, ()), (one_box, ()), (box_team, ()), (in_order, ()), (is_filling, (None,)), (is_refusal, (None,))]:
                raised(self, refusals.Unfit, ask, with_box("or"), other, *more, other=other)
            for ask, more in [(parted_at, ()), (least_mends, ()), (unmended, ([],))]:
                raised(self, refusals.Unfit, ask, plain("or"), other, *more, other=other)
                circuit = with_box("or")
                raised(self, refusals.HasBox, ask, circuit, other, *more, circuit=circuit)
            for circuit in (TWO, plain("or")):
                raised(self, refusals.Boxes, one_box, circuit, other, circuit=circuit)
            raised(self, refusals.BadGates, unmended, plain("or"), other, ["a"], index=0)
            for ask in (box_team, in_order):
                raised(self, refusals.SeesGates, ask, SEES_GATE, other, box="m")


def row_by_words(circuit, other, made, row):
    """The clause of a plain row behind others, as a dict; None for none, of things in the form of rows."""
    names = [name for name, _ in boxes_of(circuit)]
    if row[0] == "bar":
        truths, told = list(row[1]), list(row[2])
        if len(truths) != len(circuit[0]) or len(told) != len(names) or not is_unlike(circuit, other, truths, told):
            return None
        seen = seen_at(circuit, truths)
        return {(name, seen[name]): not truth for name, truth in zip(names, told)}
    if max(row[1:]) >= len(made):
        return None
    one, two = made[row[1]], made[row[2]]
    unlike = [copy for copy in one if copy in two and one[copy] != two[copy]]
    if len(unlike) != 1:
        return None
    return {copy: truth for copy, truth in {**one, **two}.items() if copy != unlike[0]}


def refusal_by_words(circuit, other, rows):
    made = []
    for row in rows:
        made.append(row_by_words(circuit, other, made, row))
        if made[-1] is None:
            return False
    return bool(made) and not made[-1]


def spoilt(source, circuit, rows):
    rows = list(rows)
    if not rows:
        return [("join", 0, 0)]
    at = source.randrange(len(rows))
    row = rows[at]
    what = source.randrange(5)
    if what == 0:
        del rows[at]
    elif what == 1:
        rows.insert(at, rows[source.randrange(len(rows))])
    elif what == 2 and row[0] == "bar":
        rows[at] = ("bar", [source.random() < 0.5 for _ in row[1]], row[2])
    elif what == 3 and row[0] == "bar":
        rows[at] = ("bar", row[1], [source.random() < 0.5 for _ in row[2]] + [True] * (source.random() < 0.1))
    elif row[0] == "join":
        rows[at] = ("join", source.choice([row[2], max(0, row[1] - 1)]), source.choice([row[1], row[2] + 1]))
    else:
        rows.append(("join", source.randrange(len(rows)), source.randrange(len(rows) + 1)))
    return rows


class BoxesTest(unittest.TestCase):
    def test_example(self):
        told = told_alike(self, filled, circuit=with_box("xor"), other=plain("xor"))
        self.assertTrue(same(told, {"m": [False, True]}))
        told = told_alike(self, one_box, circuit=with_box("xor"), other=plain("and"))
        self.assertTrue(same(told, ("two", [False, False], [False, True])))
        rows = [("bar", [False, False], [True]), ("bar", [False, True], [False]), ("join", 0, 1)]
        self.assertIs(told_alike(self, is_refusal, circuit=with_box("xor"), other=plain("and"), thing=rows), True)
        self.assertIs(is_refusal(with_box("xor"), plain("and"), rows[:2] + [("join", 1, 0)]), True)
        question = told_alike(self, in_order, circuit=with_box("xor"), other=plain("and"))
        self.assertEqual([name for name, _ in question.marks()], ["a", "m", "b"])
        self.assertEqual(value(question, []), 0)
        self.assertTrue(same(told_alike(self, one_box, circuit=with_box("and"), other=plain("xor")), ("input", [True, False])))
        self.assertIsNone(one_box(with_box("xor"), plain("xor")))

    def test_just_one(self):
        source = random.Random(2230)
        ends = {True: 0, False: 0}
        for circuit, other in two_circuits(source, 250):
            if sum(2 ** len(parts) for _, parts in boxes_of(circuit)) > 8:
                continue
            told = told_alike(self, filled, circuit=circuit, other=other)
            rows = told_alike(self, refused, circuit=circuit, other=other)
            every = [filling for filling in all_fillings(circuit) if fills(circuit, other, filling)]
            self.assertEqual(told is None, rows is not None)
            self.assertEqual(told is not None, bool(every))
            ends[told is None] += 1
            if told is not None:
                self.assertTrue(any(same(told, one) for one in every))
                self.assertIs(is_filling(circuit, other, told), True)
            else:
                self.assertTrue(refusal_by_words(circuit, other, rows))
                for shape in (as_lists, as_tuples):
                    self.assertIs(is_refusal(circuit, other, shape(rows)), True)
            for filling in list(all_fillings(circuit))[:40]:
                self.assertIs(is_filling(circuit, other, filling), filling in every)
        self.assertGreater(min(ends.values()), 40)

    def test_refusals_with_one_thing_otherwise(self):
        source = random.Random(2240)
        verdicts = {True: 0, False: 0}
        for circuit, other in two_circuits(source, 300):
            rows = refused(circuit, other)
            if rows is None:
                rows = [("bar", truths, told) for truths in all_truths(len(circuit[0])) for told in all_truths(len(boxes_of(circuit))) if is_unlike(circuit, other, truths, told)]
            for _ in range(6):
                thing = spoilt(source, circuit, rows)
                verdict = is_refusal(circuit=circuit, other=other, thing=thing)
                self.assertIs(verdict, refusal_by_words(circuit, other, thing))
                verdicts[verdict] += 1
        self.assertGreater(min(verdicts.values()), 50)

    def test_one_box(self):
        source = random.Random(2250)
        found = set()
        for circuit, other in two_circuits(source, 500, boxes=1):
            if len(boxes_of(circuit)) != 1:
                raised(self, refusals.Boxes, one_box, circuit, other, circuit=circuit)
                continue
            name = boxes_of(circuit)[0][0]
            inputs = all_truths(len(circuit[0]))
            likes = {tuple(truths): [side for side in (False, True) if not is_unlike(circuit, other, truths, [side])] for truths in inputs}
            wanted = next((("input", truths) for truths in inputs if not likes[tuple(truths)]), None)
            if wanted is None:
                pairs = [
                    ("two", one, two) for one in inputs for two in inputs
                    if one < two and seen_at(circuit, one)[name] == seen_at(circuit, two)[name] and sorted(likes[tuple(one)] + likes[tuple(two)]) == [False, True]
                    and len(likes[tuple(one)]) == 1
                ]
                wanted = pairs[0] if pairs else None
            told = told_alike(self, one_box, circuit=circuit, other=other)
            self.assertTrue(same(told, wanted))
            self.assertEqual(told is None, filled(circuit, other) is not None)
            found.add(told and told[0])
        self.assertEqual(found, {None, "input", "two"})

    def test_edges(self):
        none = refused(plain("or"), plain("and"))
        self.assertTrue(same(none, [("bar", [False, True], [])]))
        self.assertTrue(same(filled(plain("or"), plain("or")), {}))
        self.assertIs(is_filling(plain("or"), plain("or"), {}), True)
        self.assertIs(is_filling(plain("or"), plain("and"), {}), False)
        blind = (["a"], [("n", "box", [])], ["n"])
        self.assertTrue(same(filled(blind, (["a"], [("n", "xor", ["a", "a"])], ["n"])), {"n": [False]}))
        self.assertTrue(same(one_box(blind, (["b"], [], ["b"])), ("two", [False], [True])))
        told = filled(TWO, (["a"], [("n", "not", ["a"]), ("o", "or", ["n", "a"])], ["n", "o"]))
        self.assertTrue(same(told, {"m": [True, False], "n": [True]}))

    def test_any_object(self):
        circuit, other = with_box("xor"), plain("and")
        right = [("bar", [False, False], [True]), ("bar", [False, True], [False]), ("join", 0, 1)]
        wrong = [
            ("bar", [False], [True]), ("bar", [False, False], [False]), ("bar", [False, False], []), ("bar", [False, 0], [True]), ("bar", [False, False], [1]),
            ("bar", None, [True]), ("bar", [False, False]), ("bars", [False, False], [True]), ("join", 0), ("join", 0, 2), ("join", -1, 0), ("join", True, 0), ("join", 0, 0),
        ]
        for thing in any_objects() + wrong:
            self.assertIs(is_refusal(circuit, other, thing), False)
            self.assertIs(is_refusal(circuit, other, [right[0], thing] + right[1:2] + [("join", 0, 2)]), False)
            self.assertIs(is_filling(circuit, other, thing), False)
            self.assertIs(is_filling(circuit, other, {"m": thing}), False)
        self.assertIs(is_refusal(circuit, other, right[:2]), False)
        for word in ("joins", "bar", None, ["join"]):
            self.assertIs(is_refusal(circuit, other, right[:2] + [(word, 0, 1)]), False)
        # Two copies stand with unlike truths.
        two = (["a"], [("m", "box", []), ("n", "box", []), ("o", "xor", ["m", "n"])], ["o"])
        bars = [("bar", [False], [True, True]), ("bar", [False], [False, False])]
        one = (["a"], [("n", "not", ["a"])], ["n"])
        self.assertIs(is_refusal(two, one, bars + [("join", 0, 1)]), False)
        self.assertIs(is_refusal(two, one, bars + [("bar", [True], [True, False]), ("join", 0, 2)]), False)
        self.assertIs(is_refusal(two, one, refused(two, one)), True)
        self.assertIs(is_refusal(circuit, other, right + right[:1]), False)

    def test_at_the_limits(self):
        source = random.Random(2260)
        for inputs, gates, boxes, see in ((5, 20, 3, 3), (6, 24, 4, 3)):
            for circuit, other in two_circuits(source, 25, inputs=inputs, gates=gates, boxes=boxes, see=see, outs=4):
                rows = refused(circuit, other)
                told = filled(circuit, other)
                self.assertEqual(rows is None, told is not None)
                self.assertIs(is_filling(circuit, other, told) if rows is None else is_refusal(circuit, other, rows), True)


def mends_at(circuit, other, truths, lot):
    return any(outs(circuit, truths, dict(zip(lot, told))) == outs(other, truths) for told in all_truths(len(lot)))


def first_unmended(circuit, other, lot):
    return next((truths for truths in all_truths(len(circuit[0])) if not mends_at(circuit, other, truths, lot)), None)


class MendingTest(unittest.TestCase):
    def test_all_lots(self):
        source = random.Random(2270)
        found = set()
        for circuit, other in two_circuits(source, 150, boxes=0, gates=4):
            gates = [gate[0] for gate in circuit[1]]
            lots = [list(lot) for lot in chain.from_iterable(combinations(gates, size) for size in range(len(gates) + 1))]
            mends = []
            for lot in lots:
                wanted = first_unmended(circuit, other, lot)
                self.assertTrue(same(told_alike(self, unmended, circuit=circuit, other=other, lot=lot), wanted))
                self.assertTrue(same(unmended(circuit, other, lot[::-1]), wanted))
                if wanted is None:
                    mends.append(lot)
            least = [lot for lot in mends if not any(set(one) < set(lot) for one in mends)]
            told = told_alike(self, least_mends, circuit=circuit, other=other)
            self.assertTrue(same(told, least))
            self.assertEqual(told == [[]], parted_at(circuit, other) is None)
            for lot in lots:
                self.assertEqual(any(set(one) <= set(lot) for one in told), lot in mends)
            found.add((len(told) > 1, told == [[]], bool(told)))
        self.assertLessEqual({(True, False, True), (False, True, True), (False, False, False), (False, False, True)}, found)
        self.assertTrue(same(least_mends(plain("or"), plain("and")), [["n"]]))

    def test_gates(self):
        circuit = (["a", "b"], [("n", "or", ["a", "b"]), ("m", "not", ["n"])], ["m"])
        for thing in any_objects():
            if not isinstance(thing, (list, tuple)):
                raised(self, refusals.BadGates, unmended, circuit, circuit, thing, index=0)
            raised(self, refusals.BadGates, unmended, circuit, circuit, ["n", thing, None], index=1)
        for lot, index in ((["n", "n"], 1), (["a"], 0), (["m", "n", "m"], 2), ([["n"]], 0)):
            raised(self, refusals.BadGates, unmended, circuit, circuit, lot, index=index)

    def test_at_the_limits(self):
        source = random.Random(2280)
        for circuit, other in two_circuits(source, 20, inputs=5, gates=11, boxes=0, outs=4):
            for lot in least_mends(circuit, other):
                self.assertIsNone(unmended(circuit, other, lot))
                for name in lot:
                    self.assertIsNotNone(unmended(circuit, other, [one for one in lot if one != name]))


class BoxQuestionsTest(unittest.TestCase):
    def test_team_and_order(self):
        source = random.Random(2290)
        ends = set()
        for circuit, other in two_circuits(source, 250, from_inputs=True):
            inputs, boxes = list(circuit[0]), boxes_of(circuit)
            names = [name for name, _ in boxes]
            clauses = [
                [(name, not truth) for name, truth in zip(inputs + names, truths + told)]
                for truths in all_truths(len(inputs)) for told in all_truths(len(names)) if is_unlike(circuit, other, truths, told)
            ]
            team, made = told_alike(self, box_team, circuit=circuit, other=other)
            self.assertEqual(team, Team(inputs, boxes))
            self.assertTrue(same(made, clauses))
            word, policy = team_solved(team, clauses)
            filling = filled(circuit, other)
            self.assertEqual(word == "won", filling is not None)
            if word == "won":
                tables = {name: [self.told(policy[name], dict(zip(parts, seen))) for seen in all_truths(len(parts))] for name, parts in boxes}
                self.assertIs(is_filling(circuit, other, tables), True)
                functions = {name: [(list(zip(parts, seen)), truth) for seen, truth in zip(all_truths(len(parts)), filling[name])] for name, parts in boxes}
                self.assertIsNone(team_fails(team, clauses, functions))
            question = told_alike(self, in_order, circuit=circuit, other=other)
            marks = [(name, "we") for name, parts in boxes if not parts]
            for at, mark in enumerate(inputs):
                marks.append((mark, "they"))
                marks += [(name, "we") for name, parts in boxes if parts and max(inputs.index(one) for one in parts) == at]
            self.assertEqual(question, Question(marks, clauses, []))
            won = value(question, []) == 1
            self.assertTrue(won or filling is None)
            ends.add((won, filling is None))
        self.assertEqual(ends, {(True, False), (False, True), (True, True)})

    def told(self, pairs, truths):
        return next((truth for literals, truth in pairs if all(truths[mark] == side for mark, side in literals)), False)

    def test_sees_gates(self):
        two = (["a"], [("o", "not", ["a"]), ("p", "box", ["a"]), ("m", "box", ["o"]), ("n", "box", ["o", "a"])], ["m"])
        for ask in (box_team, in_order):
            raised(self, refusals.SeesGates, ask, two, (["a"], [], ["a"]), box="m")
        self.assertEqual(filled(two, (["a"], [], ["a"]))["m"], [False, True][::-1])

    def test_names(self):
        source = random.Random(2295)
        for circuit, other in two_circuits(source, 60):
            again = with_names(source, circuit)
            self.assertEqual(filled(again, other) is None, filled(circuit, other) is None)
            for truths in all_truths(len(circuit[0]))[:3]:
                self.assertEqual(list(run(circuit, truths, {}).values()), list(run(again, truths, {}).values()))


if __name__ == "__main__":
    unittest.main()
