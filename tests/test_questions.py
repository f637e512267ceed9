import unittest

from marksinturn import errors
from marksinturn.questions import Question, is_hand, renamed
from marksinturn.worth import worths
from tests.plain import any_objects, as_lists, as_tuples, questions, same, spoil

MARKS = [("a", "we"), ("b", (1, 3)), ("c", "they")]
WISHES = [[("a", True), ("b", False)], [("a", True), ("c", True)]]
GUARDS = [[("c", False)]]


class ErrorTest(unittest.TestCase):
    KEPT = {
        "BadMarks": "index", "BadWishes": "index", "BadGuards": "index", "BadQuestion": "question",
        "BadQuestionText": "line sign", "BadNames": "index", "BadPosition": "position", "BadPlay": "play",
        "BadHand": "hand", "BadPolicy": "policy", "BadMark": "mark", "NoneSets": "position", "BadPlace": "place",
        "BadK": "k", "NotOurs": "position", "BadRow": "row", "BadPaper": "index", "BadPapers": "index",
        "BadWord": "word", "BadLiterals": "literals", "BadKind": "kind", "BadHow": "how", "BadIndex": "index",
        "BadKept": "index", "BadNumber": "number", "BadPositions": "index", "BadSteps": "steps", "BadDepth": "depth",
        "HasChance": "question", "BadFree": "index", "SaysLittle": "index", "NoEnd": "free", "BadState": "state",
        "BadPrices": "index", "BadTree": "tree", "BadLimit": "limit", "BadPlain": "question",
        "BadOperation": "operation", "BadClause": "clause", "BadFew": "few", "BadTruths": "index",
        "BadSums": "index", "NotFair": "index",
    }

    def test_each_is_one_of_mark_error_and_keeps_the_very_things(self):
        self.assertEqual(errors.MarkError.__bases__, (ValueError,))
        self.assertEqual(str(errors.MarkError()), "")
        for name, words in self.KEPT.items():
            made = getattr(errors, name)
            self.assertEqual(made.__bases__, (errors.MarkError,), name)
            for thing in any_objects():
                names = words.split()
                things = [thing] + [object() for _ in names[1:]]
                for error in (made(*things), made(**dict(zip(names, things)))):
                    for word, kept in zip(names, things):
                        self.assertIs(getattr(error, word), kept)


class QuestionTest(unittest.TestCase):
    def test_tells_its_parts(self):
        question = Question(MARKS, [[("b", False), ("a", True)], [("c", True), ("a", True)]], GUARDS)
        self.assertTrue(same(question.marks(), MARKS))
        self.assertTrue(same(question.wishes(), WISHES))
        self.assertTrue(same(question.guards(), GUARDS))

    def test_lists_and_tuples_mean_the_same(self):
        question = Question(as_lists(MARKS), as_lists(WISHES), as_lists(GUARDS))
        self.assertEqual(question, Question(as_tuples(MARKS), as_tuples(WISHES), as_tuples(GUARDS)))
        self.assertTrue(same(question.marks(), MARKS))
        self.assertTrue(same(question.wishes(), WISHES))
        self.assertTrue(same(question.guards(), GUARDS))

    def test_by_name(self):
        self.assertEqual(Question(guards=GUARDS, wishes=WISHES, marks=MARKS), Question(MARKS, WISHES, GUARDS))

    def test_what_is_changed_later_has_no_effect(self):
        marks, wishes, guards = as_lists(MARKS), as_lists(WISHES), as_lists(GUARDS)
        question = Question(marks, wishes, guards)
        spoil(marks), spoil(wishes), spoil(guards)
        spoil(question.marks()), spoil(question.wishes()), spoil(question.guards())
        self.assertEqual(question, Question(MARKS, WISHES, GUARDS))
        self.assertTrue(same(question.wishes(), WISHES))

    def test_edges(self):
        empty = Question([], [], [])
        self.assertEqual((empty.marks(), empty.wishes(), empty.guards()), ([], [], []))
        doubled = Question([("a", "we")], [[], [], [("a", True)], [("a", True)]], [[]])
        self.assertEqual(doubled.wishes(), [[], [], [("a", True)], [("a", True)]])
        self.assertEqual(doubled.guards(), [[]])

    def test_equal(self):
        question = Question(MARKS, WISHES, GUARDS)
        self.assertFalse(question != Question(MARKS, WISHES, GUARDS))
        self.assertNotEqual(question, Question(MARKS, WISHES[::-1], GUARDS))
        self.assertNotEqual(question, Question(MARKS, WISHES, []))
        self.assertNotEqual(question, Question(MARKS[:2] + [("c", "we")], WISHES, GUARDS))
        self.assertNotEqual(Question([("a", (1, 2))], [], []), Question([("a", (2, 4))], [], []))
        self.assertNotEqual(Question([("a", "we"), ("b", "we")], [], []), Question([("b", "we"), ("a", "we")], [], []))
        for thing in any_objects():
            if not isinstance(thing, Question):
                self.assertFalse(question == thing)
                self.assertFalse(thing == question)

    def test_bad_marks(self):
        for marks, index in [
            (None, 0), ("ab", 0), ({}, 0), (3, 0), ([("a", "we"), ("a", "they")], 1), ([("a", "we"), "bc"], 1),
            ([("a",)], 0), ([("a", "we", 1)], 0), ([("", "we")], 0), ([("A", "we")], 0), ([("1a", "we")], 0),
            ([("abcdefghi", "we")], 0), ([("a_", "we")], 0), ([("a\n", "we")], 0), ([("\u00e9", "we")], 0),
            ([("a\u0663", "we")], 0), ([("a", "us")], 0), ([("a", (0, 2))], 0), ([("a", (2, 2))], 0), ([("a", (True, 2))], 0),
            ([("a", "we"), ("b", None), ("a", "we")], 1), ([(1, "we")], 0), ([(["a"], "we")], 0), ([("a", "w")], 0),
        ]:
            with self.assertRaises(errors.BadMarks) as caught:
                Question(marks, None, None)
            self.assertEqual(caught.exception.index, index, marks)
        Question([("abcdefgh", "we"), ("a1234567", "they"), ("z", (999, 1000))], [], [])

    def test_bad_clauses(self):
        marks = [("a", "we"), ("b", "they")]
        for clauses, index in [
            (None, 0), ("a", 0), ([None], 0), ([[], "a"], 1), ([[("a", True)], [("c", True)]], 1),
            ([[("a", True), ("a", False)]], 0), ([[("a", True), ("a", True)]], 0), ([[("a", 1)]], 0),
            ([[("a",)]], 0), ([[("a", True, True)]], 0), ([[(["a"], True)]], 0), ([("a", True)], 0), ([[None]], 0),
        ]:
            with self.assertRaises(errors.BadWishes) as caught:
                Question(marks, clauses, None)
            self.assertEqual(caught.exception.index, index, clauses)
            with self.assertRaises(errors.BadGuards) as caught:
                Question(marks, [], clauses)
            self.assertEqual(caught.exception.index, index, clauses)

    def test_is_hand(self):
        for thing in ["we", "they", (1, 2), [1, 3], (2, 4), (1, 10 ** 40)]:
            self.assertIs(is_hand(thing), True)
        for thing in ["", "us", "w", (0, 1), (1, 1), (2, 1), (True, 2), (1, True), (1, 2, 3), (1,), None, {}, [1, "2"], (-1, 2)]:
            self.assertIs(is_hand(thing=thing), False)
        hands = [thing for thing in any_objects() if is_hand(thing)]
        self.assertEqual(hands, ["we", "they", (1, 2), [1, 3]])


class RenamedTest(unittest.TestCase):
    def test_renamed(self):
        question = Question(MARKS, WISHES, GUARDS)
        other = renamed(question=question, names=("c", "a", "x1"))
        self.assertEqual(other.marks(), [("c", "we"), ("a", (1, 3)), ("x1", "they")])
        self.assertEqual(other.wishes(), [[("c", True), ("a", False)], [("c", True), ("x1", True)]])
        self.assertEqual(other.guards(), [[("x1", False)]])
        self.assertEqual(renamed(other, ["a", "b", "c"]), question)
        self.assertEqual(renamed(Question([], [[]], []), []), Question([], [[]], []))

    def test_tells_the_same(self):
        for question in questions(1, 10):
            names = ["n" + name for name, _ in question.marks()][::-1]
            self.assertEqual(worths(renamed(question, names)), worths(question))

    def test_errors(self):
        question = Question(MARKS, WISHES, GUARDS)
        for names, index in [
            (None, 0), ("abc", 0), ({"a": 1}, 0), (["a", "b"], 3), (["a", "b", "c", "d"], 3), ([], 3),
            (["a", "a"], 1), (["a", "b", "a"], 2), (["A", "b", "c"], 0), (["a", "b", "c", "d", "?"], 4), (["a", 1, "c"], 1),
            (["a", ["b"], "c"], 1),
        ]:
            with self.assertRaises(errors.BadNames) as caught:
                renamed(question, names)
            self.assertEqual(caught.exception.index, index, names)
        for thing in any_objects():
            if not isinstance(thing, Question):
                with self.assertRaises(errors.BadQuestion) as caught:
                    renamed(thing, None)
                self.assertIs(caught.exception.question, thing)


if __name__ == "__main__":
    unittest.main()
