import random
import unittest
from collections import Counter

from marksinturn import errors
from marksinturn.numberpapers import is_paper, paper_fault, telling
from marksinturn.numberrows import does_tell, is_row
from marksinturn.papermerges import hangs_on, merged, thinned, unswallowed
from marksinturn.questions import Question
from marksinturn.rowmakers import next_row, start_row
from marksinturn.solving import border, solved
from tests.plain import (
    all_positions, any_objects, as_lists, as_tuples, fraction, names_of, questions, same, spoil, value,
)
from tests.plainrows import (
    fault_by_words, is_form, made_paper, spoilt_row, start_literals, tells_of, why_not,
)

QUESTION = Question(
    [("x", "they"), ("y", "we"), ("z", (1, 3))], [[("x", True), ("y", True)], [("y", False), ("z", True)]], [],
)
PAPER = [
    ("most", 3, [("x", True), ("y", True)], (0, 1), ("lost",)),
    ("most", 3, [("y", False), ("z", True)], (0, 1), ("lost",)),
    ("most", 3, [], (1, 1), ("any",)),
    ("most", 2, [("y", False)], (1, 3), ("join", 1, 2)),
    ("most", 1, [("x", True)], (1, 3), ("join", 0, 3)),
    ("most", 0, [], (1, 3), ("drop", 4)),
]


def papers(seed, many, **how):
    source = random.Random(seed)
    for question in questions(seed, many, **how):
        yield source, question, made_paper(source, question)


class RowTest(unittest.TestCase):
    def test_is_row(self):
        for row in PAPER:
            for shape in (row, as_lists(row), as_tuples(row)):
                self.assertIs(is_row(question=QUESTION, thing=shape), True)
        good = ("least", 2, [("x", False), ("y", True)], (2, 3), ("join", 0, 10 ** 20))
        self.assertTrue(is_row(QUESTION, good))
        for at, others in enumerate([
            ["Most", "", None, ["most"], True],
            [-1, 4, 1, 0, True, None, "2", (2,)],
            [None, "xy", [("y", True), ("x", False)], [("x", True), ("x", True)], [("w", True)], [("x", 1)], [("z", True)], {}, [None]],
            [(2, 4), (3, 2), (0, 0), (0, 2), (1, 0), (-1, 2), (1,), (1, 2, 3), None, (True, 1), (0, True), "01", (2, 2), 1],
            [("lost", 0), ("drop",), ("drop", -1), ("drop", True), ("join", 0), ("join", 0, 1, 2), ("start",), (), None, "lost", ("drop", "0"),
             [None], ("join", 0, None), (["lost"],), ("drop", [0])],
        ]):
            for other in others:
                row = good[:at] + (other,) + good[at + 1:]
                self.assertIs(is_row(QUESTION, row), False, row)
        for row in [good[:4], good + (0,), None, "row", {}, [good]]:
            self.assertIs(is_row(QUESTION, row), False)
        self.assertEqual([x for x in any_objects() if is_row(Question([], [], []), x)], [("most", 0, [], (1, 1), ("any",))])

    def test_any_row(self):
        for source, question, paper in papers(50, 40):
            for row in paper:
                for _ in range(4):
                    other = spoilt_row(source, question, row)
                    self.assertIs(is_row(question, other), is_form(question, other))

    def test_does_tell(self):
        for _, question, paper in papers(51, 30):
            for row in paper[:12]:
                for position in all_positions(question):
                    shape = as_lists(row) if len(position) % 2 else as_tuples(row)
                    self.assertIs(does_tell(question=question, row=shape, position=tuple(position)), tells_of(question, row, position))
            for position in all_positions(question):
                expected = [index for index, row in enumerate(paper) if tells_of(question, row, position)]
                self.assertTrue(same(telling(question=question, paper=as_lists(paper), position=position), expected))

    def test_errors(self):
        for thing in any_objects():
            if not isinstance(thing, Question):
                for ask in (is_row, does_tell, paper_fault, is_paper, telling):
                    with self.assertRaises(errors.BadQuestion) as caught:
                        ask(thing, None, None) if ask in (does_tell, telling) else ask(thing, None)
                    self.assertIs(caught.exception.question, thing)
            if not is_row(QUESTION, thing):
                with self.assertRaises(errors.BadRow) as caught:
                    does_tell(QUESTION, thing, None)
                self.assertIs(caught.exception.row, thing)
            if thing not in ([], (), [True]):
                with self.assertRaises(errors.BadPosition) as caught:
                    does_tell(QUESTION, PAPER[0], thing)
                self.assertIs(caught.exception.position, thing)
                with self.assertRaises(errors.BadPosition) as caught:
                    telling(QUESTION, PAPER, thing)
                self.assertIs(caught.exception.position, thing)
        with self.assertRaises(errors.BadPaper) as caught:
            telling(QUESTION, PAPER[:5] + PAPER[4:5] + [PAPER[0][:4]], None)
        self.assertEqual(caught.exception.index, 6)


class PaperTest(unittest.TestCase):
    def test_example(self):
        self.assertIsNone(paper_fault(QUESTION, PAPER))
        self.assertTrue(same(start_row(QUESTION, "lost", [("y", True), ("x", True)]), PAPER[0]))
        for index in (3, 4, 5):
            kind, place, _, _, how = PAPER[index]
            self.assertTrue(same(next_row(QUESTION, PAPER[:index], kind, place, how), PAPER[index]))
        wrong = PAPER[:5] + [("most", 0, [], (0, 1), ("drop", 4))]
        self.assertEqual(paper_fault(QUESTION, wrong), (5, "number"))

    def test_shapes(self):
        for shape in (PAPER, as_lists(PAPER), as_tuples(PAPER), PAPER + PAPER[:5], []):
            self.assertIsNone(paper_fault(question=QUESTION, thing=shape))
            self.assertIs(is_paper(question=QUESTION, thing=shape), True)

    def test_each_word(self):
        for index, row, why in [
            (0, None, "form"), (0, PAPER[0][:4], "form"), (0, ("least", 3, [("x", True), ("y", True)], (0, 1), ("lost",)), "kind"),
            (0, ("least", 2, [("x", True), ("y", True)], (0, 1), ("lost",)), "kind"),
            (0, ("most", 2, [("x", True), ("y", True)], (0, 1), ("lost",)), "place"),
            (0, ("most", 2, [("x", True)], (1, 1), ("lost",)), "place"),
            (0, ("most", 3, [("x", True), ("y", False)], (0, 1), ("lost",)), "literals"),
            (0, ("most", 3, [("x", True)], (1, 1), ("lost",)), "literals"), (0, ("most", 3, [("x", True)], (1, 1), ("any",)), "literals"),
            (0, ("most", 3, [("x", True), ("y", True)], (1, 1), ("lost",)), "number"), (0, ("most", 3, [], (0, 1), ("any",)), "number"),
            (0, ("least", 3, [("x", True)], (1, 1), ("won",)), "literals"), (0, ("most", 3, [], (1, 1), ("none",)), "kind"),
            (0, ("least", 3, [], (1, 1), ("none",)), "number"), (0, ("most", 0, [], (1, 3), ("drop", 0)), "kind"),
            (5, ("most", 0, [], (1, 3), ("drop", 5)), "kind"), (5, ("least", 0, [], (1, 3), ("drop", 4)), "kind"),
            (5, ("least", 1, [], (1, 3), ("join", 4, 9)), "kind"), (5, ("most", 3, [], (1, 3), ("drop", 4)), "place"),
            (5, ("most", 1, [], (1, 3), ("drop", 4)), "place"), (5, ("most", 1, [], (1, 3), ("join", 3, 4)), "place"),
            (5, ("most", 0, [], (1, 3), ("join", 4, 4)), "hand"), (5, ("most", 1, [], (1, 3), ("drop", 3)), "hand"),
            (5, ("most", 2, [], (1, 3), ("drop", 2)), "hand"), (3, ("most", 2, [], (1, 3), ("join", 1, 2)), "literals"),
            (3, ("most", 2, [("y", False)], (2, 3), ("join", 2, 1)), "literals"), (3, ("most", 2, [], (1, 1), ("join", 2, 2)), "literals"),
            (3, ("most", 2, [("y", False)], (2, 3), ("join", 1, 2)), "number"), (3, ("most", 0, [], (0, 1), ("drop", 0)), "literals"),
            (3, ("most", 1, [("x", True)], (0, 1), ("join", 0, 1)), "literals"),
        ]:
            paper = PAPER[:index] + [row, None]
            self.assertEqual(paper_fault(QUESTION, paper), (index, why), row)
            self.assertEqual(paper_fault(QUESTION, as_lists(paper)), (index, why), row)
            self.assertIs(is_paper(QUESTION, paper), False)

    def test_by_their_words(self):
        whys = Counter()
        for source, question, paper in papers(52, 60):
            self.assertIsNone(paper_fault(question, paper))
            self.assertIsNone(fault_by_words(question, paper))
            for _ in range(60):
                at = source.randrange(len(paper))
                other = list(paper)
                if source.random() < 0.8:
                    other[at] = spoilt_row(source, question, paper[at])
                elif source.random() < 0.5:
                    del other[at]
                else:
                    other.insert(at, paper[source.randrange(len(paper))])
                fault = paper_fault(question, other)
                self.assertEqual(fault, fault_by_words(question, other), other)
                whys[fault and fault[1]] += 1
        self.assertEqual(set(whys), {None, "form", "kind", "place", "hand", "literals", "number"})

    def test_any_object(self):
        for thing in any_objects():
            if not isinstance(thing, (list, tuple)):
                self.assertEqual(paper_fault(QUESTION, thing), (0, "form"))
            elif thing:
                self.assertEqual(paper_fault(QUESTION, thing), (0, "place" if is_row(QUESTION, thing[0]) else "form"))
            self.assertIs(is_paper(QUESTION, thing), thing in ([], ()))

    def test_what_rows_say_is_so(self):
        for _, question, paper in papers(53, 40):
            for position in all_positions(question):
                here = value(question, position)
                for index in telling(question, paper, position):
                    kind, number = paper[index][0], fraction(paper[index][3])
                    self.assertTrue(here <= number if kind == "most" else here >= number)


class MakersTest(unittest.TestCase):
    def test_start_row(self):
        for source, question, _ in papers(54, 60):
            for _ in range(10):
                lot = [(name, source.random() < 0.5) for name in names_of(question) if source.random() < 0.7]
                for word, kind, number in [("lost", "most", (0, 1)), ("won", "least", (1, 1)), ("any", "most", (1, 1)), ("none", "least", (0, 1))]:
                    row = (kind, len(names_of(question)), lot, number, (word,))
                    mixed = as_lists(lot)
                    source.shuffle(mixed)
                    made = start_row(question=question, word=word, literals=mixed)
                    self.assertTrue(same(made, row if start_literals(question, word, lot) else None))

    def test_next_row(self):
        made = 0
        for source, question, paper in papers(55, 60, least=1):
            count = len(names_of(question))
            for _ in range(40):
                kind, place = source.choice(["most", "least"]), source.randrange(count)
                one, two = source.randrange(len(paper) + 1), source.randrange(len(paper) + 1)
                how = source.choice([("drop", one), ["join", one, two]])
                row = next_row(question=question, paper=paper, kind=kind, place=place, how=how)
                if row is None:
                    numbers = {row[3] for row in paper} | {(1, 2)}
                    lots = [list(row[2]) for row in paper] + [[]]
                    for number in numbers:
                        for lot in lots:
                            lot = [one for one in lot if names_of(question).index(one[0]) < place]
                            self.assertIsNotNone(why_not(question, paper, (kind, place, lot, number, how)))
                else:
                    made += 1
                    self.assertTrue(same(row[:2] + row[4:], (kind, place, tuple(how))))
                    self.assertIsNone(why_not(question, paper, row))
        self.assertGreater(made, 50)

    def test_errors(self):
        for thing in any_objects():
            if not isinstance(thing, Question):
                for ask in (lambda q: start_row(q, None, None), lambda q: next_row(q, None, None, None, None)):
                    with self.assertRaises(errors.BadQuestion) as caught:
                        ask(thing)
                    self.assertIs(caught.exception.question, thing)
            with self.assertRaises(errors.BadWord) as caught:
                start_row(QUESTION, thing, None)
            self.assertIs(caught.exception.word, thing)
            if thing not in ([], ()):
                with self.assertRaises(errors.BadLiterals) as caught:
                    start_row(QUESTION, "lost", thing)
                self.assertIs(caught.exception.literals, thing)
                with self.assertRaises(errors.BadPaper) as caught:
                    next_row(QUESTION, thing, None, None, None)
                self.assertEqual(caught.exception.index, 0)
            if thing not in ("most", "least"):
                with self.assertRaises(errors.BadKind) as caught:
                    next_row(QUESTION, PAPER, thing, None, None)
                self.assertIs(caught.exception.kind, thing)
            if type(thing) is not int or not 0 <= thing < 3:
                with self.assertRaises(errors.BadPlace) as caught:
                    next_row(QUESTION, PAPER, "most", thing, None)
                self.assertIs(caught.exception.place, thing)
            with self.assertRaises(errors.BadHow) as caught:
                next_row(QUESTION, PAPER, "most", 0, thing)
            self.assertIs(caught.exception.how, thing)
        for how in [("lost",), ("drop",), ("drop", -1), ("join", 1), ("drop", True)]:
            with self.assertRaises(errors.BadHow):
                next_row(QUESTION, PAPER, "most", 0, how)
        with self.assertRaises(errors.BadPlace):
            next_row(QUESTION, PAPER, "most", 3, ("drop", 0))
        with self.assertRaises(errors.BadLiterals):
            start_row(QUESTION, "any", [("x", True), ("x", True)])
        self.assertIsNone(next_row(QUESTION, PAPER, "most", 0, ("drop", 6)))

    def test_new_each_time(self):
        for tell in (
            lambda: start_row(QUESTION, "lost", [("x", True), ("y", True)]), lambda: next_row(QUESTION, PAPER, "most", 2, ("join", 1, 2)),
            lambda: merged(QUESTION, [PAPER]), lambda: hangs_on(QUESTION, PAPER, 5), lambda: thinned(QUESTION, PAPER, [5]),
            lambda: unswallowed(QUESTION, PAPER), lambda: telling(QUESTION, PAPER, []),
        ):
            told, before = tell(), tell()
            spoil(told)
            self.assertTrue(same(tell(), before))
        paper = as_lists(PAPER)
        told = merged(QUESTION, [paper])
        spoil(paper)
        self.assertTrue(same(told, (PAPER, [list(range(6))])))


class MergesTest(unittest.TestCase):
    def test_merged(self):
        for source, question, paper in papers(56, 40):
            lot = [made_paper(source, question, 20) for _ in range(3)] + [paper[:5], [], paper]
            rows, places = merged(question=question, papers=as_tuples(lot))
            expected, where = [], []
            for one in lot:
                new = []
                for kind, place, literals, number, how in one:
                    row = (kind, place, literals, number, (how[0],) + tuple(new[index] for index in how[1:]))
                    if row not in expected:
                        expected.append(row)
                    new.append(expected.index(row))
                where.append(new)
            self.assertTrue(same((rows, places), (expected, where)))
            self.assertIsNone(paper_fault(question, rows))
        self.assertTrue(same(merged(QUESTION, []), ([], [])))

    def test_hangs_on_and_thinned(self):
        for source, question, paper in papers(57, 40):
            for index in range(len(paper)):
                self.assertTrue(same(hangs_on(question=question, paper=as_lists(paper), index=index), hanging(paper, [index])))
            kept = [source.randrange(len(paper)) for _ in range(source.randint(0, 4))]
            rows, places = thinned(question=question, paper=paper, kept=tuple(kept))
            needed = hanging(paper, kept)
            self.assertEqual([row[:4] for row in rows], [paper[index][:4] for index in needed])
            self.assertTrue(same(places, [needed.index(index) for index in kept]))
            for row, index in zip(rows, needed):
                how = paper[index][4]
                self.assertTrue(same(row[4], (how[0],) + tuple(needed.index(one) for one in how[1:])))
            self.assertIsNone(paper_fault(question, rows))

    def test_unswallowed(self):
        self.assertEqual(unswallowed(QUESTION, PAPER), [0, 1, 2, 3, 4, 5])
        self.assertEqual(unswallowed(QUESTION, PAPER + PAPER), [0, 1, 2, 3, 4, 5])
        lot = [(question, paper) for _, question, paper in papers(58, 60)]
        source = random.Random(60)
        for question in questions(61, 30, most=5, least=3, guards=False):
            marks = [(name, (source.randint(1, 2), 3)) for name in names_of(question)]
            question = Question(marks, question.wishes(), [])
            lot.append((question, made_paper(source, question, 150)))
            lot.append((question, border(question, 2)[1]))
        for question, paper in lot:
            expected = [
                index for index, row in enumerate(paper)
                if not any(
                    swallows(other, row) and not (swallows(row, other) and index < at)
                    for at, other in enumerate(paper) if at != index
                )
            ]
            told = unswallowed(question=question, paper=as_tuples(paper))
            self.assertTrue(same(told, expected))
            for position in all_positions(question):
                for kind, best in (("most", min), ("least", max)):
                    numbers = [fraction(row[3]) for row in paper if row[0] == kind and tells_of(question, row, position)]
                    fewer = [fraction(paper[at][3]) for at in told if paper[at][0] == kind and tells_of(question, paper[at], position)]
                    self.assertEqual(best(numbers, default=None), best(fewer, default=None))

    def test_errors(self):
        for thing in any_objects():
            if not isinstance(thing, Question):
                for ask in (lambda q: merged(q, None), lambda q: hangs_on(q, None, None), lambda q: thinned(q, None, None), lambda q: unswallowed(q, None)):
                    with self.assertRaises(errors.BadQuestion) as caught:
                        ask(thing)
                    self.assertIs(caught.exception.question, thing)
            if thing not in ([], ()):
                for ask in (lambda p: hangs_on(QUESTION, p, None), lambda p: thinned(QUESTION, p, None), lambda p: unswallowed(QUESTION, p)):
                    with self.assertRaises(errors.BadPaper) as caught:
                        ask(thing)
                    self.assertEqual(caught.exception.index, 0)
                with self.assertRaises(errors.BadPapers) as caught:
                    merged(QUESTION, [PAPER, (), thing])
                self.assertEqual(caught.exception.index, 2)
            if not isinstance(thing, (list, tuple)):
                with self.assertRaises(errors.BadPapers) as caught:
                    merged(QUESTION, thing)
                self.assertEqual(caught.exception.index, 0)
                with self.assertRaises(errors.BadKept) as caught:
                    thinned(QUESTION, PAPER, thing)
                self.assertEqual(caught.exception.index, 0)
            if type(thing) is not int or not 0 <= thing < 6:
                with self.assertRaises(errors.BadIndex) as caught:
                    hangs_on(QUESTION, PAPER, thing)
                self.assertIs(caught.exception.index, thing)
                with self.assertRaises(errors.BadKept) as caught:
                    thinned(QUESTION, PAPER, [0, 5, thing, None])
                self.assertEqual(caught.exception.index, 2)
        with self.assertRaises(errors.BadIndex):
            hangs_on(QUESTION, PAPER, 6)

    def test_at_the_limits(self):
        question = questions(59, 1, least=12, most=12, clauses=30, width=6)[0]
        marks = [(name, (1, 7) if by == "we" else by) for name, by in question.marks()]
        question = Question(marks, question.wishes(), question.guards())
        lot = [border(question, depth)[1] for depth in (3, 4, 5, 6)] + [solved(question, [])[1]]
        rows, _ = merged(question, lot)
        self.assertIsNone(paper_fault(question, rows))
        self.assertLessEqual(len(unswallowed(question, rows)), len(rows))


def hanging(paper, kept):
    """The indexes of the rows on which kept ones hang."""
    needed = set()
    left = list(kept)
    while left:
        index = left.pop()
        needed.add(index)
        left.extend(paper[index][4][1:])
    return sorted(needed)


def swallows(one, other):
    if one[0] != other[0] or one[1] < other[1] or not all(literal in other[2] for literal in one[2]):
        return False
    if one[0] == "most":
        return fraction(one[3]) <= fraction(other[3])
    return fraction(one[3]) >= fraction(other[3])


if __name__ == "__main__":
    unittest.main()
