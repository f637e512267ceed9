import random
import re
import unittest
from math import gcd

from marksinturn import errors, refusals
from marksinturn.numberpapers import paper_fault
from marksinturn.playtexts import play_fault, play_text, read_play, read_sums, sums_fault, sums_text
from marksinturn.policytexts import policy_fault, policy_text, read_policy_text
from marksinturn.policyworths import policy_worth
from marksinturn.rowtexts import read_rows, rows_fault, rows_text
from marksinturn.solving import solved
from tests.plain import (
    a_function, all_positions, any_objects, as_tuples, made_policy, made_question, names_of, questions, raised, same, told_alike,
)
from tests.plainrows import made_paper, spoilt_row

NAME = "[a-z][a-z0-9]{0,7}"
NUMBER = "(?:0|[1-9][0-9]{0,8})"
ROW = re.compile(rf"(most|least) {NUMBER} ({NUMBER})/({NUMBER})((?: !?{NAME})*) : (?:lost|won|any|none|drop {NUMBER}|join {NUMBER} {NUMBER})")
PAIR = re.compile(rf"({NAME}) :(?: (yes|no)((?: !?{NAME})*))?")
SUM = re.compile(rf"(odd|even)((?: {NAME})*)")
SIGNS = "abmlx01239 !:/\nwonyesdropjtivA%\t"


def lines_of(text):
    """The lines of a text each of which has its line feed; None for another text."""
    return text.split("\n")[:-1] if text == "" or text.endswith("\n") else None


def are_unlike(literals):
    names = [one.lstrip("!") for one in literals.split()]
    return len(names) == len(set(names))


def is_rows_text(text):
    for line in lines_of(text) if lines_of(text) is not None else [None]:
        found = line is not None and ROW.fullmatch(line)
        if not found or not are_unlike(found[4]):
            return False
        p, q = int(found[2]), int(found[3])
        if not p <= q or q == 0 or gcd(p, q) != 1:
            return False
    return True


def is_policy_text(text):
    ends = {}
    last = None
    for line in lines_of(text) if lines_of(text) is not None else [None]:
        found = line is not None and PAIR.fullmatch(line)
        if not found or not are_unlike(found[3] or ""):
            return False
        mark, word = found[1], found[2]
        if mark in ends and (mark != last or word is None or not ends[mark]):
            return False
        ends[mark] = word is not None
        last = mark
    return True


def is_sums_text(text):
    lines = lines_of(text)
    if lines is None:
        return False
    return all(SUM.fullmatch(line) and are_unlike(SUM.fullmatch(line)[2]) for line in lines)


def is_play_text(names):
    def asked(text):
        lines = lines_of(text)
        if lines is None or len(lines) != 1:
            return False
        pieces = lines[0].split(" ") if lines[0] else []
        return len(pieces) <= len(names) and all(piece in (name, "!" + name) for piece, name in zip(pieces, names))

    return asked


def ends_of(lines):
    """What may be put behind a text that goes on: the ends of lines, of which one does if any does."""
    found = {"", "\n"}
    for line in lines:
        found |= {line[at:] + "\n" for at in range(len(line))}
    return sorted(found)


ROW_ENDS = ends_of([
    "most 1 1/1 : any", "least 1 1/1 : lost", "most 1 1/1 : won", "most 1 1/1 : none", "most 1 1/1 : join 1 1", "most 1 1/1 : drop 1", "1 1/1 : any", "z9z : any",
    "1 2/3 : any", "/1 : any", "/97 : any", "01 : any", "3 : any", "7 : any", "11 : any", "1 : any", "9 : any", "/999999999 : any", "/999999998 : any", "/999999997 : any", "/999999929 : any", "99 : any", "999 : any",
])
PAIR_ENDS = ends_of(["z9 : yes z8 !z7", "z9 : no", "z9 :", " : yes", "9 : yes"])
SUM_ENDS = ends_of(["odd z9 z8", "even z9"])


def place_of(text, at):
    """The line and the sign, from 1, of the sign of a text with an index."""
    return (text.count("\n", 0, at) + 1, at - (text.rfind("\n", 0, at) + 1) + 1)


def fault_by_words(text, is_read, ends, known):
    """The place of the first sign such that no text that is read begins with all up to it."""
    if is_read(text):
        return None
    for at in range(len(text)):
        start = text[:at + 1]
        if start not in known:
            known[start] = any(is_read(start + end) for end in ends)
        if not known[start]:
            return place_of(text, at)
    return place_of(text, len(text))


def spoilt_texts(source, text, many):
    """The text with a sign more, less, or otherwise, and cut."""
    found = [text[:source.randint(0, len(text))] for _ in range(many)]
    for _ in range(2 * many):
        at = source.randint(0, len(text))
        found.append(text[:at] + source.choice(SIGNS) + text[at + source.randint(0, 1):])
        found.append(text[:at] + text[at + 1:])
    return found


class Judged(unittest.TestCase):
    """What all texts have in common."""

    def setUp(self):
        # What is known of the beginnings of texts of one kind.
        self.known = {}

    def hold(self, text, fault, read, error, is_read, ends, marks=None):
        """A fault of a text as it is by the words; what is read of it, or refused."""
        wanted = fault_by_words(text, is_read, ends, self.known.setdefault(str(marks), {}))
        passed = [] if marks is None else [marks]
        self.assertTrue(same(fault(*passed, text), wanted), (text, fault(*passed, text), wanted))
        if wanted is not None:
            raised(self, error, read, *passed, text, line=wanted[0], sign=wanted[1])
        return wanted is None


class RowsTextTest(Judged):
    def judge(self, text):
        return self.hold(text, rows_fault, read_rows, refusals.BadRowsText, is_rows_text, ROW_ENDS)

    def test_example(self):
        rows = [("least", 2, [("x", True), ("y", False)], (1, 1), ("won",)), ("least", 1, [("x", True)], (1, 1), ("drop", 0))]
        self.assertTrue(same(told_alike(self, rows_text, paper=rows), "least 2 1/1 x !y : won\nleast 1 1/1 x : drop 0\n"))
        self.assertTrue(same(told_alike(self, read_rows, text="least 2 1/1 x !y : won\nleast 1 1/1 x : drop 0\n"), rows))
        for text, place in (("most 3 2/4 ", (1, 11)), ("most 0 1/1 x x", (1, 15)), ("least 1 1/1 : joint", (1, 19))):
            self.assertTrue(same(told_alike(self, rows_fault, text=text), place))

    def test_papers(self):
        source = random.Random(2700)
        for question in questions(2701, 120, most=5):
            paper = source.choice([made_paper(source, question, 30), solved(question, [])[1]])
            if paper and source.random() < 0.5:
                at = source.randrange(len(paper))
                row = spoilt_row(source, question, paper[at])
                text_of = [*paper[:at], row, *paper[at + 1:]]
                try:
                    rows_text(text_of)
                    paper = text_of
                except refusals.BadRowForm as error:
                    self.assertEqual(error.index, at)
            text = told_alike(self, rows_text, paper=paper)
            self.assertTrue(is_rows_text(text))
            self.assertTrue(same(as_tuples(read_rows(text)), as_tuples(paper)))
            self.assertTrue(all(type(row) is tuple and type(row[2]) is list for row in read_rows(text)))
            self.assertEqual(rows_text(read_rows(text)), text)
            self.assertEqual(paper_fault(question, read_rows(text)), paper_fault(question, paper))
            self.assertIsNone(rows_fault(text + text))

    def test_faults(self):
        source = random.Random(2710)
        read = 0
        for question in questions(2711, 60, most=4, least=1):
            paper = made_paper(source, question, 15)
            text = rows_text(source.sample(paper, min(len(paper), 3)))
            for one in spoilt_texts(source, text, 6):
                read += self.judge(one)
        self.assertGreater(read, 20)

    def test_each_sign(self):
        text = "least 12 2/15 x !ab2 : join 10 2\nmost 0 0/1 : any\n"
        for at in range(len(text) + 1):
            self.judge(text[:at])
            for sign in SIGNS:
                self.judge(text[:at] + sign + text[at:])
                self.judge(text[:at] + sign)
                self.judge(text[:at] + sign + text[at + 1:])

    def test_numbers(self):
        cases = {
            "most 00": (1, 7), "most 0": (1, 7), "most 123456789 ": (1, 16), "most 1234567890": (1, 15), "most -1": (1, 6), "most  1": (1, 6),
            "most 1 0/0": (1, 10), "most 1 0/2": (1, 10), "most 1 0/1 ": (1, 12), "most 1 0/10": (1, 11), "most 1 1/1 ": (1, 12), "most 1 1/01": (1, 10),
            "most 1 3/2": (1, 11), "most 1 3/2 ": (1, 11), "most 1 3/1": (1, 11), "most 1 999999999": (1, 16), "most 1 999999998/": (1, 18),
            "most 1 999999998/999999999": (1, 27), "most 1 999999998/999999998": (1, 26), "most 1 999999997/99999999": (1, 26), "most 1 99999999/": (1, 17),
            "most 1 500000000/4": (1, 18), "most 1 500000000/5": (1, 19), "most 1 500000000/50000000": (1, 26), "most 1 500000000/500000000": (1, 26),
            "most 1 500000000/500000001": (1, 27), "most 1 2/4": (1, 11), "most 1 2/4 ": (1, 11), "most 1 6/6": (1, 11), "most 1 6/6 ": (1, 11), "most 1 1/2/": (1, 11),
            "most 1 1/1234567890": (1, 19), "most 1 1 ": (1, 9), "most 1 /": (1, 8), "most 1 1//": (1, 10),
            "most 1 223092870/22309287": (1, 26), "most 1 223092870/223092870": (1, 26), "most 1 223092870/223092871": (1, 27), "most 1 223092870/22309288": (1, 25),
        }
        for text, place in cases.items():
            self.assertTrue(same(rows_fault(text), place), (text, rows_fault(text)))
        source = random.Random(2720)
        for _ in range(300):
            p = source.choice([source.randint(0, 30), source.randint(10 ** 8 - 40, 10 ** 8 + 40), source.randint(10 ** 9 - 50, 10 ** 9 - 1)])
            q = str(source.choice([source.randint(p, p + 40), source.randint(1, 40), 10 ** source.randint(0, 8)]))[:9]
            text = f"most 1 {p}/{q}"
            # Of each number of figures that can still come all numbers are looked at, or some forty of them.
            wanted = None
            for many in range(1, len(q) + 1):
                can = False
                for more in range(10 - many):
                    low, high = int(q[:many]) * 10 ** more, (int(q[:many]) + 1) * 10 ** more
                    can = can or any(gcd(p, one) == 1 for one in range(max(low, p), min(high, max(low, p) + 200)))
                if not can and wanted is None:
                    wanted = (1, len(f"most 1 {p}/") + many)
            if p == 999999999:
                wanted = (1, len("most 1 999999999"))
            self.assertEqual(rows_fault(text), wanted or (1, len(text) + 1), text)
            if wanted is None:
                blank = rows_fault(text + " ")
                self.assertEqual(blank, (1, len(text) + 2) if p <= int(q) and gcd(p, int(q)) == 1 else (1, len(text) + 1))

    def test_names(self):
        long = "abcdefgh"
        cases = {
            f"most 0 1/1 {long} {long}": (1, 28), f"most 0 1/1 {long} {long[:7]}": (1, 28), f"most 0 1/1 {long}i": (1, 20), "most 0 1/1 x !x ": (1, 16),
            "most 0 1/1 x !x": (1, 16), "most 0 1/1 !!": (1, 13), "most 0 1/1 X": (1, 12), "most 0 1/1 1": (1, 12), "most 0 1/1 x\n": (1, 13), "most 0 1/1\n": (1, 11),
            "most 0 1/1 :\n": (1, 13), "most 0 1/1 : any ": (1, 17), "most 0 1/1 : drop\n": (1, 18), "most 0 1/1 : join 1\n": (1, 20), "most 0 1/1 : join 1 2 ": (1, 22),
            "most 0 1/1 : lost\n\n": (2, 1), "most 0 1/1 : lost\n ": (2, 1), "\n": (1, 1), "mist": (1, 2), "most\n": (1, 5), "most 0 1/1 ::": (1, 13), "most 0 1/1 !:": (1, 13),
        }
        for text, place in cases.items():
            self.assertTrue(same(rows_fault(text), place), (text, rows_fault(text)))
        # When all that begins so stood ahead, it is wrong there already.
        every = ["abcdefg" + sign for sign in "abcdefghijklmnopqrstuvwxyz0123456789"]
        text = "most 0 1/1 " + " ".join(every) + " abcdefg"
        self.assertEqual(rows_fault(text), (1, len(text) + 1))
        self.assertIsNone(rows_fault(text + " : any\n"))
        self.assertEqual(rows_fault(text + "a"), (1, len(text) + 1))
        text += " abcdefg"
        self.assertEqual(rows_fault(text), (1, len(text)))

    def test_forms(self):
        right = ("most", 3, [("b", True), ("a", False)], (1, 2), ("join", 5, 0))
        self.assertEqual(rows_text([right]), "most 3 1/2 b !a : join 5 0\n")
        self.assertEqual(rows_text([("most", 0, [], (1, 1), ("won",))]), "most 0 1/1 : won\n")
        self.assertTrue(same((rows_text([]), rows_text(()), read_rows("")), ("", "", [])))
        wrong = [("loses", *right[1:]), (right[0], -1, *right[2:]), (right[0], True, *right[2:]), right[:4], (*right, 0)]
        wrong += [(*right[:2], lot, *right[3:]) for lot in (None, [("a", True), ("a", False)], [("A", True)], [("a", 1)], [("a",)], "ab", [("abcdefghi", True)])]
        wrong += [(*right[:3], number, right[4]) for number in ((2, 4), (2, 1), (1, 0), (0, 2), None, (True, 1), (1,))]
        wrong += [(*right[:4], how) for how in (("start",), ("drop",), ("join", 1), ("drop", -1), ("drop", True), "lost", None, (), ("drop", 1, 2))]
        for thing in any_objects():
            if not isinstance(thing, (list, tuple)):
                raised(self, refusals.BadRowForm, rows_text, thing, index=0)
            wanted = None if isinstance(thing, str) and is_rows_text(thing) else (0, 0) if not isinstance(thing, str) else rows_fault(thing)
            self.assertTrue(same(rows_fault(thing), wanted))
            if not isinstance(thing, str):
                raised(self, refusals.BadRowsText, read_rows, thing, line=0, sign=0)
        for thing in any_objects() + wrong:
            if as_tuples(thing) != ("most", 0, (), (1, 1), ("any",)):
                raised(self, refusals.BadRowForm, rows_text, [right, thing, None], index=1)

    def test_long(self):
        source = random.Random(2730)
        rows = []
        for at in range(2200):
            names = source.sample([f"m{one}" for one in range(100)], 14)
            rows.append((source.choice(["most", "least"]), at, [(name, source.random() < 0.5) for name in names], (10 ** 8, 10 ** 8 + 1), ("join", at, at)))
        text = rows_text(rows)
        self.assertTrue(same(read_rows(text), rows))
        self.assertEqual(rows_fault(text + "x"), (2201, 1))


class PolicyTextTest(Judged):
    def judge(self, text):
        return self.hold(text, policy_fault, read_policy_text, refusals.BadPolicyText, is_policy_text, PAIR_ENDS)

    def test_example(self):
        policy = {"x": [([("y", True)], False), ([], True)], "z": []}
        self.assertTrue(same(told_alike(self, policy_text, policy=policy), "x : no y\nx : yes\nz :\n"))
        self.assertTrue(same(told_alike(self, read_policy_text, text="x : no y\nx : yes\nz :\n"), policy))
        self.assertIsNone(told_alike(self, policy_fault, text="x : no y\nx : yes\nz :\n"))

    def test_policies(self):
        source = random.Random(2740)
        for _ in range(150):
            question = made_question(source, source.randint(0, 4))
            hand = source.choice(["we", "they"])
            policy = made_policy(source, question, hand)
            text = told_alike(self, policy_text, policy=policy)
            self.assertTrue(is_policy_text(text))
            told = told_alike(self, read_policy_text, text=text)
            self.assertTrue(same(told, policy))
            self.assertEqual(policy_worth(question, hand, told, []), policy_worth(question, hand, policy, []))
            turned = dict(list(policy.items())[::-1])
            self.assertEqual(list(read_policy_text(policy_text(turned))), list(turned))
            for one in spoilt_texts(source, text, 3):
                self.judge(one)

    def test_each_sign(self):
        text = "x : no y !x\nx : yes\nz :\nxa : yes\n"
        for at in range(len(text) + 1):
            for sign in SIGNS:
                self.judge(text[:at] + sign + text[at:])
                self.judge(text[:at] + sign)
                self.judge(text[:at] + sign + text[at + 1:])

    def test_lines(self):
        cases = {
            "x : yes\nx :\n": (2, 4), "x : yes\nx :": (2, 4), "x :\nx ": (2, 2), "x :\nx": (2, 2), "x : yes\ny :\nx ": (3, 2), "x : yes\ny : no\nx :": (3, 2), "x : yes\ny : no\ny ": (3, 3),
            "abcdefgh :\nabcdefgh": (2, 8), "abcdefgh : no\nabcdefgh": (2, 9), "abcdefgh : no\ny :\nabcdefgh": (3, 8), "x : yes y y\n": (1, 12), "x : yes y !y ": (1, 13),
            "x : maybe": (1, 5), "x : yesno": (1, 8), "x:": (1, 2), "x  ": (1, 3), "x : ": (1, 5), "x : yes ": (1, 9), "x : yes \n": (1, 9), "\n": (1, 1), " ": (1, 1), "!": (1, 1), "x": (1, 2),
        }
        for text, place in cases.items():
            self.assertTrue(same(policy_fault(text), place), (text, policy_fault(text)))
        for text in ("", "x :\n", "x : yes\nx : yes\nx : no x\n"):
            self.assertIsNone(policy_fault(text))
        self.assertTrue(same(read_policy_text("x : yes\nx : yes\ny :\n"), {"x": [([], True), ([], True)], "y": []}))

    def test_forms(self):
        wrong = [
            {"X": []}, {"": []}, {1: []}, {"x": None}, {"x": [([], 1)]}, {"x": [([("y", True), ("y", True)], True)]}, {"x": [([("Y", True)], True)]},
            {"x": [([],)]}, {"x": [None]}, {"x": [(None, True)]}, {"x": {}}, {"abcdefghi": []}, {"x": [], ("y",): []},
        ]
        for thing in any_objects() + wrong:
            if thing not in ({}, {"a": []}, {"a": [([], True)]}):
                raised(self, refusals.BadPolicyForm, policy_text, thing, policy=thing)
            if not isinstance(thing, str):
                self.assertTrue(same(policy_fault(thing), (0, 0)))
                raised(self, refusals.BadPolicyText, read_policy_text, thing, line=0, sign=0)
        self.assertTrue(same((policy_text({}), read_policy_text("")), ("", {})))
        self.assertEqual(policy_text({"x": ((((("x", True),), False)),)}), "x : no x\n")


class PlayTextTest(Judged):
    MARKS = [("x", "we"), ("y", (1, 2)), ("xy", "they")]

    def judge(self, text, marks):
        names = [name for name, _ in marks]
        ends = [""] + [end for length in range(len(names) + 1) for end in ends_of([" ".join(names[at:length]) for at in range(length)])]
        return self.hold(text, play_fault, read_play, refusals.BadPlayText, is_play_text(names), ends, marks)

    def test_example(self):
        marks = [("x", "we"), ("y", "they")]
        self.assertTrue(same(told_alike(self, play_text, marks=marks, position=[False]), "!x\n"))
        self.assertTrue(same(told_alike(self, read_play, marks=marks, text="!x\n"), [False]))
        self.assertIsNone(told_alike(self, play_fault, marks=marks, text="!x\n"))

    def test_positions(self):
        for question in questions(2750, 80, most=4):
            marks = question.marks()
            for position in all_positions(question):
                text = told_alike(self, play_text, marks=marks, position=position)
                pieces = [name if truth else "!" + name for name, truth in zip(names_of(question), position)]
                self.assertEqual(text, " ".join(pieces) + "\n")
                self.assertTrue(same(told_alike(self, read_play, marks=marks, text=text), position))
                self.assertIsNone(play_fault(marks, text))

    def test_each_sign(self):
        for marks, text in ((self.MARKS, "x !y xy\n"), (self.MARKS[:2], "!x y\n"), (self.MARKS, "!x\n"), ([], "\n"), (self.MARKS, "\n")):
            for at in range(len(text) + 1):
                self.judge(text[:at], marks)
                for sign in SIGNS:
                    self.judge(text[:at] + sign + text[at:], marks)
                    self.judge(text[:at] + sign, marks)
                    self.judge(text[:at] + sign + text[at + 1:], marks)

    def test_faults(self):
        cases = {"": (1, 1), "x": (1, 2), "x ": (1, 3), "x \n": (1, 3), "x y xy ": (1, 7), "x y xy\nx": (2, 1), "\n\n": (2, 1), "\nx": (2, 1), "y": (1, 1), "xy": (1, 2), "x x": (1, 3), " x": (1, 1), "!!x": (1, 2)}
        for text, place in cases.items():
            self.assertTrue(same(play_fault(self.MARKS, text), place), (text, play_fault(self.MARKS, text)))
        self.assertTrue(same((play_text([], []), read_play([], "\n"), play_fault([], ""), play_fault([], " "), play_fault([], "\n")), ("\n", [], (1, 1), (1, 1), None)))

    def test_errors(self):
        for thing in any_objects():
            if not isinstance(thing, (list, tuple)):
                for ask in (play_text, read_play, play_fault):
                    raised(self, errors.BadMarks, ask, thing, None, index=0)
            if thing != ("a", "we"):
                raised(self, errors.BadMarks, play_text, [("b", "we"), thing, None], None, index=1)
            if thing not in ([], (), [True]):
                raised(self, errors.BadPosition, play_text, self.MARKS, thing, position=thing)
            if not isinstance(thing, str):
                self.assertTrue(same(play_fault(self.MARKS, thing), (0, 0)))
                raised(self, refusals.BadPlayText, read_play, self.MARKS, thing, line=0, sign=0)
        for ask in (play_text, read_play, play_fault):
            raised(self, errors.BadMarks, ask, self.MARKS + self.MARKS, None, index=3)


class SumsTextTest(Judged):
    def judge(self, text):
        return self.hold(text, sums_fault, read_sums, refusals.BadSumsText, is_sums_text, SUM_ENDS)

    def test_example(self):
        sums = [([], True), (["a", "b"], False)]
        self.assertTrue(same(told_alike(self, sums_text, sums=sums), "odd\neven a b\n"))
        self.assertTrue(same(told_alike(self, read_sums, text="odd\neven a b\n"), sums))
        self.assertIsNone(told_alike(self, sums_fault, text="odd\neven a b\n"))

    def test_sums(self):
        source = random.Random(2760)
        for _ in range(150):
            names = source.sample(["a", "b", "cd", "c1", "longname"], source.randint(0, 5))
            sums = [(source.sample(names, source.randint(0, len(names))), source.random() < 0.5) for _ in range(source.randint(0, 4))]
            text = told_alike(self, sums_text, sums=sums)
            self.assertTrue(is_sums_text(text))
            self.assertTrue(same(told_alike(self, read_sums, text=text), sums))
            for one in spoilt_texts(source, text, 3):
                self.judge(one)

    def test_each_sign(self):
        text = "odd x\neven\neven ab x\n"
        for at in range(len(text) + 1):
            for sign in SIGNS:
                self.judge(text[:at] + sign + text[at:])
                self.judge(text[:at] + sign)
                self.judge(text[:at] + sign + text[at + 1:])

    def test_faults(self):
        cases = {"odd x x": (1, 8), "odd x x\n": (1, 8), "odd abcdefgh abcdefgh": (1, 21), "odd !x": (1, 5), "odd ": (1, 5), "odd \n": (1, 5), "oddx": (1, 4), "\n": (1, 1), "o": (1, 2), "e\n": (1, 2), "odd\n ": (2, 1)}
        for text, place in cases.items():
            self.assertTrue(same(sums_fault(text), place), (text, sums_fault(text)))

    def test_forms(self):
        for thing in any_objects():
            if not isinstance(thing, (list, tuple)):
                raised(self, refusals.BadSumForm, sums_text, thing, index=0)
            if thing != ([], True):
                raised(self, refusals.BadSumForm, sums_text, [([], True), thing, None], index=2 if as_tuples(thing) == ((), True) else 1)
            if not isinstance(thing, str):
                self.assertTrue(same(sums_fault(thing), (0, 0)))
                raised(self, refusals.BadSumsText, read_sums, thing, line=0, sign=0)
        for one in ((["a", "a"], True), (["A"], True), (["a"], 1), (["a"],), ("a", True), ([None], True)):
            raised(self, refusals.BadSumForm, sums_text, [one], index=0)
        self.assertTrue(same((sums_text([]), read_sums(""), sums_text((((), False),))), ("", [], "even\n")))
        self.assertIsNotNone(sums_fault(a_function))


if __name__ == "__main__":
    unittest.main()
