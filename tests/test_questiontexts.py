import random
import unittest

from marksinturn.errors import BadQuestion, BadQuestionText
from marksinturn.questions import Question
from marksinturn.questiontexts import question_fault, question_text, read_question, whole_text
from tests.plain import any_objects, questions

TEXT = "we a\nchance 1 3 b\nthey c\nwish a !b\nwish c a\nguard !c\n"
QUESTION = Question(
    [("a", "we"), ("b", (1, 3)), ("c", "they")],
    [[("a", True), ("b", False)], [("a", True), ("c", True)]],
    [[("c", False)]],
)
FAULTS = [
    ("we a\nwe a\n", (2, 5)), ("we a\nwish a a", (2, 7)), ("we a\nwish !b", (2, 7)), ("chance 3 2 x", (1, 11)), ("we", (1, 3)),
    ("", None), ("\n", (1, 1)), (" ", (1, 1)), ("w", (1, 2)), ("we ", (1, 4)), ("we  a", (1, 4)), ("we a", (1, 5)),
    ("we\n", (1, 3)), ("we \n", (1, 4)), ("we a ", (1, 5)), ("we a\r\n", (1, 5)), ("we A\n", (1, 4)), ("we 1\n", (1, 4)),
    ("we abcdefgh\n", None), ("we abcdefghi\n", (1, 12)), ("we abcdefgh\nthey abcdefgh", (2, 13)),
    ("we abcdefg\nthey abcdefg", (2, 13)), ("we abcdefg\nthey abcdefg\n", (2, 13)), ("we a\nthey a1\n", None),
    ("they b\nus", (2, 1)), ("thew", (1, 4)), ("wex", (1, 3)), ("wish", (1, 5)), ("wish\n", None), ("wish ", (1, 5)),
    ("wish\nwe", (2, 2)), ("wish\nguard\nwish", (3, 1)), ("guard\nguard\n", None), ("wish\nchance", (2, 1)), ("guards", (1, 6)),
    ("we a\nwish !a\n", None), ("we a\nwish !!a", (2, 7)), ("we a\nwish !\n", (2, 7)), ("we a\nwish ! a", (2, 7)),
    ("we a\nwish a!", (2, 7)), ("we ab\nwish a\n", (2, 7)), ("we ab\nwish a", (2, 7)), ("we ab\nwish abc", (2, 8)),
    ("we ab\nwe a\nwish a ab\n", None), ("we ab\nwe a\nwish a a\n", (3, 9)), ("we ab\nwe a\nwish a !a ", (3, 10)),
    ("we a\nwe b\nwish a !a", (3, 9)), ("we a\nwe b\nwish a b ", (3, 9)), ("we a\nwish a \n", (2, 7)), ("we a\nwe b\nwish a \n", (3, 8)),
    ("chance 0", (1, 8)), ("chance 01 2 x", (1, 8)), ("chance 1 1 x", (1, 11)), ("chance 1 1", (1, 11)), ("chance 1 0", (1, 10)),
    ("chance 5 3", (1, 11)), ("chance 5 31 x\n", None), ("chance 1 2 x\n", None), ("chance 1  2", (1, 10)), ("chance 1 x", (1, 10)),
    ("chance 999999998 999999999 x\n", None), ("chance 999999999", (1, 16)), ("chance 99999999 1", (1, 18)),
    ("chance 99999998 999999990 x\n", None), ("chance 1234567890", (1, 17)), ("chance 1 1234567890", (1, 19)),
    ("chance 123456789 123456788", (1, 25)), ("chance 123456789 12345678", (1, 25)), ("chance 123456789 1234567 ", (1, 25)),
    ("chance 123456780 12345678", (1, 26)), ("chance 123456780 123456780 ", (1, 26)),
    ("chance 999999998 99999999", (1, 26)), ("chance 999999998 8", (1, 18)), ("chance 1 2 x", (1, 13)), ("chance 1 2\n", (1, 11)),
    ("chance 1\n", (1, 9)), ("chance -1", (1, 8)), ("chance \u0663", (1, 8)), ("we a\x0b", (1, 5)), ("we a\n\nwish\n", (2, 1)),
    ("we a\nwish a\nwish a\n", None), ("we a\nguard a\nwe b\n", (3, 1)), ("\u2028", (1, 1)),
]


class TextTest(unittest.TestCase):
    def test_example(self):
        self.assertEqual(read_question(TEXT), QUESTION)
        self.assertEqual(question_text(question=QUESTION), TEXT.replace("wish c a", "wish a c"))

    def test_text_and_back(self):
        for question in questions(2, 60, most=6, width=4):
            text = question_text(question)
            self.assertIsNone(question_fault(text))
            self.assertEqual(read_question(text=text), question)
            self.assertEqual(whole_text(text), text)

    def test_empty(self):
        self.assertEqual(question_text(Question([], [], [])), "")
        self.assertEqual(read_question(""), Question([], [], []))
        self.assertEqual(question_text(Question([], [[], []], [[]])), "wish\nwish\nguard\n")

    def test_faults(self):
        for text, fault in FAULTS:
            self.assertEqual(question_fault(text=text), fault, text)
            if fault is None:
                self.assertEqual(read_question(text), read_question(question_text(read_question(text))))
            else:
                with self.assertRaises(BadQuestionText) as caught:
                    read_question(text)
                self.assertEqual((caught.exception.line, caught.exception.sign), fault)

    def test_names_that_are_all_taken(self):
        signs = "abcdefghijklmnopqrstuvwxyz0123456789"
        lines = ["we abcdefg\n"] + ["we abcdefg" + sign + "\n" for sign in signs]
        self.assertEqual(question_fault("".join(lines[:-1]) + "they abcdefg"), (37, 13))
        self.assertTrue(whole_text("".join(lines[:-1]) + "they abcdefg").endswith("they abcdefg9\n"))
        self.assertEqual(question_fault("".join(lines) + "they abcdefg"), (38, 12))
        self.assertIsNone(whole_text("".join(lines) + "they abcdefg"))

    def test_just_one(self):
        """Each beginning of a text is led to an end; a text with a sign put otherwise is either led, or wrong at a sign."""
        source = random.Random(3)
        signs = "we thychanisgurd!0129\n abx"
        texts = [TEXT] + [question_text(question) for question in questions(4, 10, most=5)] + [text for text, _ in FAULTS]
        for text in texts:
            for end in range(len(text) + 1):
                self.check_just_one(text[:end])
            for _ in range(40):
                at = source.randint(0, len(text))
                self.check_just_one(text[:at] + source.choice(signs) + text[at + source.randint(0, 1):])

    def check_just_one(self, text):
        whole = whole_text(text=text)
        fault = question_fault(text)
        lines = text.split("\n")
        behind = (len(lines), len(lines[-1]) + 1)
        if whole is None:
            self.assertNotIn(fault, (None, behind))
            # All up to the sign ahead of the fault can go on, with the fault's sign nothing can.
            line, sign = fault
            ahead = "".join(one + "\n" for one in lines[:line - 1]) + lines[line - 1][:sign - 1]
            self.assertIsNotNone(whole_text(ahead))
            self.assertEqual(question_fault(text[:len(ahead) + 1]), fault)
        else:
            self.assertTrue(whole.startswith(text))
            self.assertIsNone(question_fault(whole))
            self.assertIn(fault, (None, behind))
            self.assertEqual(fault is None, whole == text)

    def test_any_object(self):
        for thing in any_objects():
            if not isinstance(thing, str):
                self.assertEqual(question_fault(thing), (0, 0))
                self.assertIsNone(whole_text(thing))
                with self.assertRaises(BadQuestionText) as caught:
                    read_question(thing)
                self.assertEqual((caught.exception.line, caught.exception.sign), (0, 0))
            if not isinstance(thing, Question):
                with self.assertRaises(BadQuestion) as caught:
                    question_text(thing)
                self.assertIs(caught.exception.question, thing)

    def test_long_texts(self):
        marks = "".join("we a%d\n" % at for at in range(2000))
        clauses = "".join("wish a%d !a%d\n" % (at, at + 1) for at in range(1999))
        self.assertIsNone(question_fault(marks + clauses))
        self.assertEqual(question_fault(marks + clauses + "wish a1 a1\n"), (4000, 11))


if __name__ == "__main__":
    unittest.main()
