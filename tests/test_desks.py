import random
import unittest

from marksinturn import errors, refusals
from marksinturn.desks import Desk
from marksinturn.numberpapers import is_paper
from marksinturn.questions import Question
from marksinturn.solving import border, bounds_at, solved
from tests.plain import NAMES, all_positions, any_objects, as_tuples, made_question, pair, raised, same, spoil, value
from tests.plainrows import made_paper, start_literals

MARKS = [("a", "we"), ("b", "they")]
ONE = [("a", True), ("b", True)]
OTHER = [("a", False), ("b", False)]
SIDES = ("wish", "guard")


class Model:
    """What lies on a desk by the words of the document; rows that a settle keeps are told to it."""

    def __init__(self, marks):
        self.marks = marks
        self.tags = 0
        self.now = ([], [])
        self.past = []
        self.ahead = []

    def do(self, word, laid, rows):
        self.past.append((word, self.now))
        self.now = (laid, rows)
        self.ahead = []

    def question(self):
        lots = [[clause for _, at, clause in self.now[0] if at == side] for side in SIDES]
        return Question(self.marks, *lots)

    def lay(self, side, clause):
        names = [name for name, _ in self.marks]
        laid = self.now[0] + [(self.tags, side, sorted(clause, key=lambda one: names.index(one[0])))]
        self.tags += 1
        self.do("lay", laid, self.now[1])
        return laid[-1][0]

    def take(self, tag):
        found = [one for one in self.now[0] if one[0] == tag]
        self.do("take", [one for one in self.now[0] if one[0] != tag], self.now[1])
        return found[0][1:]

    def put(self, word, rows):
        """Rows whose numbers of earlier ones are those of all that are kept."""
        self.do(word, self.now[0], self.now[1] + rows)
        return len(self.now[1])

    def standing(self):
        """The numbers of the rows that stand."""
        question = self.question()
        found = []
        for index, (_, _, literals, _, how) in enumerate(self.now[1]):
            if len(how) == 1 and start_literals(question, how[0], literals) or len(how) > 1 and all(one in found for one in how[1:]):
                found.append(index)
        return found

    def kept(self):
        standing = self.standing()
        rows = [self.now[1][index] for index in standing]
        return [(*row[:4], (row[4][0], *[standing.index(one) for one in row[4][1:]])) for row in rows]

    def back(self, some, others):
        if not some:
            return None
        word, lying = some.pop()
        others.append((word, self.now))
        self.now = lying
        return word


def led(rows, places):
    """Rows with the numbers of earlier ones led to other places."""
    return [(*row[:4], (row[4][0], *[places[one] for one in row[4][1:]])) for row in rows]


def made_clause(source, marks):
    names = [name for name, _ in marks]
    return [(name, source.random() < 0.5) for name in source.sample(names, source.randint(0 if source.random() < 0.1 else 1, min(3, len(names))))]


class DeskTest(unittest.TestCase):
    def test_example(self):
        desk = Desk(MARKS)
        self.assertEqual(desk.lay("wish", ONE), 0)
        self.assertTrue(same(desk.settle([]), (1, 1)))
        first = desk.kept()
        self.assertEqual(desk.lay("wish", OTHER), 1)
        self.assertFalse([row for row in desk.kept() if row[0] == "least"])
        self.assertTrue(same(desk.settle([]), (0, 1)))
        self.assertTrue(same(desk.take(1), ("wish", OTHER)))
        self.assertTrue(all(row in desk.kept() for row in first))
        self.assertTrue(same(desk.kept()[:len(first)], first))
        self.assertTrue(same(desk.bounds([]), ((1, 1), (1, 1))))

    def check(self, desk, model):
        self.assertTrue(same(desk.laid(), model.now[0]))
        self.assertEqual(desk.as_question(), model.question())
        self.assertTrue(same(desk.kept(), model.kept()))
        self.assertTrue(is_paper(model.question(), desk.kept()))

    def deed(self, source, desk, model, chance):
        """One deed on both; what it tells is held together."""
        laid, rows = model.now
        what = source.choice(["lay", "lay", "take", "keep", "settle", "undo", "redo"])
        if what == "lay":
            side, clause = source.choice(SIDES), made_clause(source, model.marks)
            self.assertTrue(same(desk.lay(side=side, clause=source.choice([clause, as_tuples(clause)])), model.lay(side, clause)))
        elif what == "take" and laid:
            tag = source.choice(laid)[0]
            self.assertTrue(same(desk.take(tag=tag), model.take(tag)))
        elif what == "keep":
            question = model.question()
            position = source.choice(all_positions(question))
            paper = source.choice([[], solved(question, position)[1], made_paper(source, question, 12), border(question, len(position))[1]])
            told = desk.keep(paper=source.choice([paper, as_tuples(paper)]))
            self.assertTrue(same(told, model.put("keep", led(paper, {one: one + len(rows) for one in range(len(paper))}))))
        elif what == "settle":
            position = source.choice(all_positions(model.question()))
            standing, ahead = model.standing(), desk.kept()
            told = desk.settle(position=source.choice([position, tuple(position)]))
            self.assertTrue(same(told, pair(value(model.question(), position))))
            self.assertTrue(same(desk.bounds(position), (told, told)))
            behind = desk.kept()
            self.assertTrue(same(behind[:len(ahead)], ahead))
            places = {at: place for at, place in enumerate(standing)}
            places.update({len(ahead) + at: len(rows) + at for at in range(len(behind) - len(ahead))})
            if bounds_at(model.question(), ahead, position)[0] == bounds_at(model.question(), ahead, position)[1]:
                self.assertEqual(behind, ahead)
            model.put("settle", led(behind[len(ahead):], places))
            self.assertEqual(desk.keep([]), len(model.now[1]))
            self.assertEqual(model.put("keep", []), len(model.now[1]))
        elif what == "undo":
            self.assertTrue(same(desk.undo(), model.back(model.past, model.ahead)))
        elif what == "redo":
            self.assertTrue(same(desk.redo(), model.back(model.ahead, model.past)))
        return what

    def test_deeds(self):
        for seed in range(60):
            source = random.Random(2300 + seed)
            marks = made_question(source, source.randint(1, 4), chance=seed % 2 == 0).marks()
            desk, model = Desk(marks=marks), Model(marks)
            for _ in range(25):
                self.deed(source, desk, model, seed % 2 == 0)
                self.check(desk, model)
                for position in source.sample(all_positions(model.question()), 2):
                    self.assertTrue(same(desk.bounds(position=position), bounds_at(model.question(), model.kept(), position)))

    def test_rows_that_go_on_standing(self):
        for seed in range(120):
            source = random.Random(2400 + seed)
            marks = made_question(source, 3).marks()
            desk = Desk(marks)
            tags = [(side, desk.lay(side, made_clause(source, marks))) for side in source.choices(SIDES, k=3)]
            for position in all_positions(desk.as_question()):
                desk.settle(position)
            ahead = desk.kept()
            if source.random() < 0.5:
                side = source.choice(SIDES)
                desk.lay(side, made_clause(source, marks))
                is_worse = side == "wish"
            else:
                side, tag = source.choice(tags)
                desk.take(tag)
                is_worse = side == "guard"
            kind = "most" if is_worse else "least"
            self.assertTrue(all(row[:4] in [one[:4] for one in desk.kept()] for row in ahead if row[0] == kind))
            desk.undo()
            self.assertTrue(same(desk.kept(), ahead))

    def test_tags(self):
        desk = Desk(MARKS)
        self.assertEqual([desk.lay("wish", ONE), desk.lay("guard", OTHER)], [0, 1])
        self.assertEqual((desk.undo(), desk.lay("wish", [])), ("lay", 2))
        self.assertEqual([tag for tag, _, _ in desk.laid()], [0, 2])
        self.assertEqual((desk.undo(), desk.undo(), desk.redo()), ("lay", "lay", "lay"))
        self.assertEqual([tag for tag, _, _ in desk.laid()], [0])
        self.assertEqual((desk.redo(), desk.redo()), ("lay", None))
        self.assertTrue(same(desk.laid(), [(0, "wish", ONE), (2, "wish", [])]))
        self.assertEqual((desk.take(0), desk.lay("wish", ONE)), (("wish", ONE), 3))
        raised(self, refusals.NotLaid, desk.take, 0, tag=0)
        raised(self, refusals.NotLaid, desk.take, 1, tag=1)
        self.assertEqual([desk.undo() for _ in range(5)], ["lay", "take", "lay", "lay", None])
        self.assertEqual(desk.laid(), [])
        self.assertEqual(desk.lay("wish", ONE), 4)

    def test_back_and_forth(self):
        desk = Desk(MARKS)
        self.assertIsNone(desk.undo())
        self.assertIsNone(desk.redo())
        desk.lay("wish", ONE)
        desk.settle([])
        rows = desk.kept()
        many = desk.keep(rows)
        self.assertEqual(many, 2 * len(rows))
        self.assertEqual(desk.kept()[:len(rows)], rows)
        self.assertTrue(same(desk.kept()[len(rows):], led(rows, {at: at + len(rows) for at in range(len(rows))})))
        desk.settle([])
        self.assertEqual([desk.undo() for _ in range(3)], ["settle", "keep", "settle"])
        self.assertEqual(desk.kept(), [])
        self.assertEqual([desk.redo() for _ in range(3)], ["settle", "keep", "settle"])
        self.assertEqual(len(desk.kept()), many)
        desk.undo()
        desk.undo()
        desk.keep([])
        self.assertIsNone(desk.redo())
        self.assertEqual([desk.undo() for _ in range(4)], ["keep", "settle", "lay", None])
        self.assertEqual([desk.redo() for _ in range(4)], ["lay", "settle", "keep", None])

    def test_copies(self):
        for seed in range(40):
            source = random.Random(2500 + seed)
            marks = made_question(source, 3).marks()
            desk, model = Desk(marks), Model(marks)
            for _ in range(8):
                self.deed(source, desk, model, True)
            other = desk.copy()
            self.assertEqual(desk, other)
            kept, laid = desk.kept(), desk.laid()
            words = [other.undo() for _ in range(12)]
            self.assertEqual((other.kept(), other.laid()), ([], []))
            self.assertTrue(same((desk.kept(), desk.laid()), (kept, laid)))
            self.assertEqual([other.redo() for _ in words if _ is not None][::-1], [word for word in words if word is not None])
            self.assertEqual(other.lay("wish", []), model.tags)
            self.assertNotEqual(desk, other)
            self.assertEqual(desk.lay("wish", []), model.tags)
            self.assertEqual(desk.undo(), "lay")
            other.undo()
            self.assertEqual(desk, other)

    def test_equal(self):
        one, other = Desk(MARKS), Desk(as_tuples(MARKS))
        self.assertEqual(one, other)
        self.assertNotEqual(one, Desk(MARKS[::-1]))
        for thing in any_objects():
            self.assertFalse(one == thing)
        one.lay("wish", ONE)
        self.assertNotEqual(one, other)
        other.lay("guard", ONE)
        self.assertNotEqual(one, other)
        other.undo()
        self.assertNotEqual(other, Desk(MARKS))
        other.lay("wish", as_tuples(ONE))
        # The tags are unlike.
        self.assertNotEqual(one, other)
        one, other = Desk(MARKS), Desk(MARKS)
        one.take(one.lay("wish", ONE))
        self.assertEqual(one, other)
        one.settle([])
        self.assertNotEqual(one, other)
        other.keep(one.kept())
        self.assertEqual(one, other)
        # Rows that do not stand count, too.
        for desk in (one, other):
            desk.lay("wish", [])
        self.assertNotEqual(one, other)
        one, other = Desk(MARKS), Desk(MARKS)
        for desk in (one, other):
            desk.lay("wish", ONE)
        one.keep([("most", 2, ONE, (0, 1), ("lost",))])
        one.take(0)
        other.take(0)
        self.assertEqual((one.kept(), other.kept()), ([], []))
        self.assertNotEqual(one, other)
        # What can be redone counts.
        one, other = Desk(MARKS), Desk(MARKS)
        one.keep([])
        one.undo()
        self.assertNotEqual(one, other)
        other.settle([])
        other.undo()
        self.assertNotEqual(one, other)

    def test_new_each_time(self):
        desk = Desk(MARKS)
        clause = list(ONE)
        desk.lay("wish", clause)
        clause.clear()
        paper = solved(desk.as_question(), [])[1]
        desk.keep(paper)
        spoil(paper)
        kept, laid = desk.kept(), desk.laid()
        for told in (desk.kept(), desk.laid(), desk.copy().kept(), desk.as_question().wishes()):
            spoil(told)
        self.assertTrue(same((desk.kept(), desk.laid()), (kept, laid)))
        spoil(desk.take(0))
        desk.undo()
        self.assertTrue(same((desk.kept(), desk.laid()), (kept, laid)))

    def test_errors(self):
        for thing in any_objects():
            if not isinstance(thing, (list, tuple)):
                raised(self, errors.BadMarks, Desk, thing, index=0)
            if thing != ("a", "we"):
                raised(self, errors.BadMarks, Desk, [MARKS[1], thing, None], index=2 if as_tuples(thing) == ("a", "we") else 1)
        raised(self, errors.BadMarks, Desk, MARKS + MARKS, index=2)
        desk = Desk(MARKS)
        desk.lay("wish", ONE)
        desk.settle([])
        desk.lay("guard", OTHER)
        desk.undo()
        same_one = desk.copy()
        for thing in any_objects():
            raised(self, refusals.BadSide, desk.lay, thing, None, side=thing)
            if thing not in ([], (), [("a", True)], (("a", True),)):
                raised(self, errors.BadClause, desk.lay, "wish", thing, clause=thing)
            if type(thing) is not int or thing != 0:
                raised(self, refusals.NotLaid, desk.take, thing, tag=thing)
            if not isinstance(thing, (list, tuple)):
                raised(self, errors.BadPaper, desk.keep, thing, index=0)
            raised(self, errors.BadPaper, desk.keep, [("most", 2, ONE, (0, 1), ("lost",)), thing, None], index=1)
            if thing not in ([], (), [True]):
                raised(self, errors.BadPosition, desk.bounds, thing, position=thing)
                raised(self, errors.BadPosition, desk.settle, thing, position=thing)
        for clause in ([("a", True), ("a", False)], [("c", True)], [("a", 1)], [ONE]):
            raised(self, errors.BadClause, desk.lay, "guard", clause, clause=clause)
        for position in ([True, True, True], [1], "", [None]):
            raised(self, errors.BadPosition, desk.settle, position, position=position)
        raised(self, errors.BadPaper, desk.keep, [("most", 2, OTHER, (0, 1), ("lost",))], index=0)
        self.assertEqual(desk, same_one)
        self.assertEqual((desk.redo(), desk.lay("wish", [])), ("lay", 2))

    def test_at_the_limits(self):
        source = random.Random(2600)
        marks = made_question(source, 10).marks()
        desk = Desk(marks)
        for at in range(60):
            desk.lay(SIDES[at % 6 == 0], [(name, source.random() < 0.5) for name in source.sample(NAMES[:10], 3)])
            if at % 3 == 0:
                number = desk.settle([source.random() < 0.5 for _ in range(at % 10)])
                self.assertTrue(0 <= number[0] <= number[1])
        self.assertTrue(is_paper(desk.as_question(), desk.kept()))
        many = desk.keep(border(desk.as_question(), 6)[1])
        self.assertGreater(many, 0)
        self.assertEqual(desk.settle([]), pair(value(desk.as_question(), [])))


if __name__ == "__main__":
    unittest.main()
