import random
import unittest
from itertools import product

from marksinturn import errors
from marksinturn.fewplays import few_paper, few_rows, is_few
from marksinturn.fewpolicies import few_policy, play_by
from marksinturn.lostpapers import is_lost_paper, lost_paper
from marksinturn.operations import classes_of, keeps, unkept
from marksinturn.policies import is_policy
from marksinturn.policyworths import policy_worth
from marksinturn.questions import Question
from tests.plain import NAMES, any_objects, as_lists, holds, raised, same, tells, told_alike, value, won

OPERATIONS = ("both", "either", "middle")
X, Y, Z = ("x", True), ("y", True), ("z", True)
NOT_X, NOT_Z = ("x", False), ("z", False)
MARKS = [("x", "they"), ("y", "they"), ("z", "we")]
LOST = Question(MARKS, [[X, NOT_Z], [Y, NOT_Z], [Z, NOT_X]], [])
KEPT = Question(MARKS, [[X, NOT_Z], [Z, NOT_X]], [])
ASKED = [
    few_rows, few_paper, lambda q, o: is_few(q, o, None), lambda q, o: play_by(q, o, None, None), lambda q, o: few_policy(q, o, None),
    lost_paper, lambda q, o: is_lost_paper(q, o, None),
]


def made_of(operation, lists):
    """What an operation makes, mark by mark."""
    many = {"both": lambda some: all(some), "either": lambda some: any(some), "middle": lambda some: sum(some) > 1}[operation]
    return [many(some) for some in zip(*lists)]


def kept_by_words(operation, clause):
    held = [list(truths) for truths in product([False, True], repeat=len(clause)) if any(t == s for t, (_, s) in zip(truths, clause))]
    return all(
        any(t == s for t, (_, s) in zip(made_of(operation, lists), clause))
        for lists in product(held, repeat=3 if operation == "middle" else 2)
    )


def made_clause(source, operation, names):
    """A clause that an operation keeps."""
    some = source.sample(names, min(len(names), source.randint(0 if source.random() < 0.05 else 1, 2 if operation == "middle" else 4)))
    truths = [source.random() < 0.5 for _ in some]
    if operation != "middle":
        truths = [operation == "either"] * len(some)
        if some and source.random() < 0.7:
            truths[source.randrange(len(some))] = operation == "both"
    return list(zip(some, truths))


def plain_questions(seed, many, most=5, least=0, clauses=None):
    """Pairs of an operation and a question whose wishes it keeps."""
    source = random.Random(seed)
    for at in range(many):
        operation = OPERATIONS[at % 3]
        names = NAMES[:source.randint(least, most)]
        marks = [(name, source.choice(["we", "they"])) for name in names]
        size = source.randint(0, len(names) + 1) if clauses is None else clauses
        yield operation, Question(marks, [made_clause(source, operation, names) for _ in range(size)], [])


def rows_by_words(question, operation):
    many = sum(hand == "they" for _, hand in question.marks())
    ground = {"both": [True], "either": [False], "middle": [False, True]}[operation]
    rows = [[truth] * many for truth in ground]
    rows += [[(at == place) != (operation == "both") for at in range(many)] for place in range(many)]
    return [row for at, row in enumerate(rows) if row not in rows[:at]]


def theirs_of(question, play):
    return [truth for (_, hand), truth in zip(question.marks(), play) if hand == "they"]


def few_by_words(question, operation, plays):
    rows = rows_by_words(question, operation)
    if [theirs_of(question, play) for play in plays] != rows or not all(won(question, play) for play in plays):
        return False
    places = [place for place, (_, hand) in enumerate(question.marks()) if hand == "they"]
    for i, one in enumerate(rows):
        for j in range(i):
            at = next(k for k in range(len(one)) if one[k] != rows[j][k])
            if plays[i][:places[at]] != plays[j][:places[at]]:
                return False
    return True


def copied_by_words(question, operation, row, wish):
    """The literals of copies of a step; None if a literal of theirs holds."""
    rows = rows_by_words(question, operation)
    names = [name for name, _ in question.marks()]
    theirs = [name for name, hand in question.marks() if hand == "they"]
    truths = dict(zip(theirs, rows[row]))
    found = []
    for mark, truth in question.wishes()[wish]:
        if mark in truths:
            if truths[mark] == truth:
                return None
        else:
            ahead = sum(name in theirs for name in names[:names.index(mark)])
            found.append(((mark, next(f for f, other in enumerate(rows) if other[:ahead] == rows[row][:ahead])), truth))
    return found


def step_by_words(question, operation, step):
    if not isinstance(step, (list, tuple)) or len(step) != 2 or any(type(one) is not int or one < 0 for one in step):
        return None
    if step[0] >= len(rows_by_words(question, operation)) or step[1] >= len(question.wishes()):
        return None
    return copied_by_words(question, operation, *step)


def way_by_words(question, steps, start, goal):
    at = start
    for step in steps:
        clause = step_by_words(question, "middle", step)
        if clause is None or (at[0], not at[1]) not in clause or len(clause) > 2:
            return False
        rest = [one for one in clause if one != (at[0], not at[1])]
        at = rest[0] if rest else (at[0], not at[1])
    return at == goal


def lost_by_words(question, operation, thing):
    if operation == "middle":
        if len(thing) == 1:
            return step_by_words(question, operation, thing[0]) == []
        if len(thing) != 3:
            return False
        copy, there, back = thing
        if type(copy[1]) is not int:
            return False
        yes, no = (tuple(copy), True), (tuple(copy), False)
        return way_by_words(question, there, yes, no) and way_by_words(question, back, no, yes)
    forced = []
    for at, step in enumerate(thing):
        clause = step_by_words(question, operation, step)
        if clause is None:
            return False
        heads = [copy for copy, truth in clause if truth == (operation == "both")]
        if any(copy not in forced for copy, truth in clause if truth != (operation == "both")):
            return False
        if len(heads) != (at < len(thing) - 1):
            return False
        forced += heads
    return len(thing) > 0


def play_by_words(question, operation, few, truths):
    rows = rows_by_words(question, operation)
    many = len(truths)

    def of(row):
        return few[rows.index(row)]

    def his(at):
        return of([(i == at) != (operation == "both") for i in range(many)])

    play = []
    for place, (_, hand) in enumerate(question.marks()):
        ahead = range(len(theirs_of(question, play)))
        if hand == "they":
            play.append(truths[len(ahead)])
        elif operation == "both":
            play.append(of([True] * many)[place] and all(his(at)[place] for at in ahead if not truths[at]))
        elif operation == "either":
            no = not of([False] * many)[place] and all(not his(at)[place] for at in ahead if truths[at])
            play.append(not no)
        else:
            no, yes = of([False] * many)[place], of([True] * many)[place]
            some = any(his(at)[place] == yes for at in ahead if truths[at])
            play.append(yes if no == yes or some else no)
    return play


class OperationTest(unittest.TestCase):
    def test_kept(self):
        for size in range(5):
            for truths in product([False, True], repeat=size):
                clause = list(zip("dacb", truths))
                for operation in OPERATIONS:
                    kept = told_alike(self, keeps, operation=operation, clause=clause)
                    self.assertIs(kept, kept_by_words(operation, clause) if size < 4 or operation != "middle" else False)
                    lists = told_alike(self, unkept, operation=operation, clause=clause)
                    self.assertIs(lists is None, kept)
                    if lists is not None:
                        self.assertEqual(len(lists), 3 if operation == "middle" else 2)
                        for one in lists:
                            self.assertTrue(any(t == s for t, s in zip(one, truths)))
                            self.assertEqual((len(one), {type(t) for t in one}), (size, {bool}))
                        self.assertFalse(any(t == s for t, s in zip(made_of(operation, lists), truths)))

    def test_wide_clauses(self):
        clause = [(f"n{at}", at % 3 > 0) for at in range(12)]
        for operation in OPERATIONS:
            self.assertIs(keeps(operation, clause), False)
            made = made_of(operation, unkept(operation, clause))
            self.assertFalse(any(t == s for t, (_, s) in zip(made, clause)))

    def test_classes(self):
        source = random.Random(1100)
        for _ in range(200):
            operation = source.choice(OPERATIONS)
            wishes = [made_clause(source, operation, NAMES[:4]) for _ in range(source.randint(0, 3))]
            question = Question([(name, "we") for name in NAMES[:4]], wishes, [])
            kept = [one for one in OPERATIONS if all(keeps(one, wish) for wish in wishes)]
            self.assertTrue(same(classes_of(question), kept))
            self.assertIn(operation, kept)
        self.assertEqual(told_alike(self, classes_of, question=Question([], [], [])), list(OPERATIONS))
        self.assertEqual(classes_of(Question([], [[]], [])), list(OPERATIONS))

    def test_errors(self):
        for ask in (keeps, unkept):
            for thing in any_objects() + ["most", "Both", ["both"]]:
                raised(self, errors.BadOperation, ask, thing, None, operation=thing)
                if thing not in ([], (), [("a", True)], (("a", True),)):
                    raised(self, errors.BadClause, ask, "both", thing, clause=thing)
            for clause in ([X, X], [X, NOT_X], [("X", True)], [("", True)], [("x", 1)], [("x", True, True)], [X, None], [("toolongaa", True)]):
                raised(self, errors.BadClause, ask, "middle", clause, clause=clause)


class FewTest(unittest.TestCase):
    def test_example(self):
        self.assertEqual(classes_of(LOST), ["both", "either", "middle"])
        self.assertTrue(same(told_alike(self, few_rows, question=LOST, operation="both"), [[True, True], [False, True], [True, False]]))
        self.assertIs(told_alike(self, is_lost_paper, question=LOST, operation="both", thing=[(2, 2), (2, 1)]), True)
        self.assertIs(is_lost_paper(LOST, "both", [(2, 1), (2, 2)]), False)
        self.assertIsNone(few_paper(LOST, "both"))
        plays = [[True, True, True], [False, True, False], [True, False, True]]
        self.assertIs(told_alike(self, is_few, question=KEPT, operation="both", thing=plays), True)
        self.assertTrue(same(few_paper(KEPT, "both"), plays))
        self.assertIsNone(lost_paper(KEPT, "both"))
        for truths in product([False, True], repeat=2):
            self.assertEqual(play_by(KEPT, "both", plays, truths), [*truths, truths[0]])

    def test_just_one(self):
        many = {}
        for operation, question in plain_questions(1110, 600):
            self.assertTrue(same(few_rows(question, operation), rows_by_words(question, operation)))
            few, lost = few_paper(question, operation), lost_paper(question, operation)
            self.assertIs(few is None, lost is not None)
            self.assertEqual(value(question, []), 1 if lost is None else 0)
            many[operation, lost is None] = many.get((operation, lost is None), 0) + 1
            if lost is not None:
                self.assertTrue(lost_by_words(question, operation, lost))
                self.assertIs(is_lost_paper(question, operation, lost), True)
                self.assertIs(is_lost_paper(question, operation, as_lists(lost)), True)
                self.assertIs(is_few(question, operation, []), False)
            else:
                self.assertTrue(few_by_words(question, operation, few))
                self.assertIs(is_few(question, operation, few), True)
        self.assertGreater(min(many.values()), 60)
        self.assertEqual(len(many), 6)

    def test_lost_in_each_way(self):
        """Lost papers that take a way through several copies, through one clause alone, and a step without copies."""
        shapes = set()
        for operation, question in plain_questions(1115, 900, most=6):
            lost = told_alike(self, lost_paper, question=question, operation=operation)
            if lost is not None and operation == "middle":
                shapes.add("step" if isinstance(lost, list) else (min(len(lost[1]), 3), min(len(lost[2]), 3)))
            elif lost is not None:
                shapes.add((operation, min(len(lost), 3)))
        self.assertLessEqual({"step", (1, 1), (3, 1), ("both", 1), ("both", 3), ("either", 1), ("either", 3)}, shapes)
        pairs = [[("a", one), ("b", other)] for one in (True, False) for other in (True, False)]
        question = Question([("a", "we"), ("b", "we")], pairs, [])
        paper = lost_paper(question, "middle")
        self.assertTrue(lost_by_words(question, "middle", paper))
        self.assertEqual((len(paper[1]), len(paper[2])), (2, 2))

    def test_played(self):
        for operation, question in plain_questions(1120, 450):
            few = few_paper(question, operation)
            if few is None:
                continue
            policy = told_alike(self, few_policy, question=question, operation=operation, few=few)
            self.assertTrue(is_policy(question, "we", policy))
            self.assertEqual(list(policy), [name for name, hand in question.marks() if hand == "we"])
            self.assertEqual(policy_worth(question, "we", policy, []), (1, 1))
            for truths in product([False, True], repeat=len(theirs_of(question, few[0]))):
                play = told_alike(self, play_by, question=question, operation=operation, few=few, truths=list(truths))
                self.assertTrue(same(play, play_by_words(question, operation, few, truths)))
                self.assertTrue(won(question, play))
                for place, (name, hand) in enumerate(question.marks()):
                    if hand == "we":
                        self.assertIs(tells(question, policy[name], play[:place]), play[place])

    def test_other_few_papers(self):
        """Few papers that are not the told ones are played by what they say."""
        source = random.Random(1130)
        many = dict.fromkeys(OPERATIONS, 0)
        for operation, question in plain_questions(1131, 600, least=2, clauses=2):
            told = few_paper(question, operation)
            few = [list(play) for play in told or []]
            for _ in range(10):
                if not few:
                    break
                place = source.randrange(len(few[0]))
                other = [list(play) for play in few]
                if source.random() < 0.5:
                    for play in other:
                        play[place] = not play[place]
                else:
                    at = source.randrange(len(few))
                    other[at][place] = not other[at][place]
                right = few_by_words(question, operation, other)
                self.assertIs(is_few(question, operation, other), right)
                if right:
                    few = other
                else:
                    raised(self, errors.BadFew, play_by, question, operation, other, None, few=other)
                    raised(self, errors.BadFew, few_policy, question, operation, other, few=other)
            if few and few != told:
                many[operation] += 1
                policy = few_policy(question, operation, few)
                for truths in product([False, True], repeat=len(theirs_of(question, few[0]))):
                    play = play_by(question, operation, few, truths)
                    self.assertEqual(play, play_by_words(question, operation, few, truths))
                    self.assertTrue(won(question, play))
                    for place, (name, hand) in enumerate(question.marks()):
                        if hand == "we":
                            self.assertIs(tells(question, policy[name], play[:place]), play[place])
        self.assertGreater(min(many.values()), 30)

    def test_bent_lost_papers(self):
        source = random.Random(1140)
        many = {True: 0, False: 0}
        for operation, question in plain_questions(1141, 600):
            lost = lost_paper(question, operation)
            if lost is None:
                continue
            for _ in range(15):
                bent = as_lists(lost)
                ways = [bent] if operation != "middle" or len(bent) == 1 else bent[1:]
                way = source.choice(ways)
                what = source.randrange(6)
                if what == 0 and way:
                    step = source.choice(way)
                    at = source.randrange(2)
                    step[at] = source.choice([step[at] + 1, step[at] - 1, 0, -1, True, None, 99])
                elif what == 1 and way:
                    way.pop(source.randrange(len(way)))
                elif what == 2:
                    way.reverse()
                elif what == 3:
                    way.insert(source.randint(0, len(way)), [source.randrange(len(rows_by_words(question, operation))), 0])
                elif what == 4 and len(ways) == 2:
                    bent[0][1] += source.choice([-1, 1])
                elif way:
                    way.insert(source.randint(0, len(way)), list(source.choice(way)))
                right = lost_by_words(question, operation, bent)
                many[right] += 1
                self.assertIs(is_lost_paper(question, operation, bent), right, bent)
        self.assertGreater(min(many.values()), 100)

    def test_no_marks_of_a_hand(self):
        for operation in OPERATIONS:
            ours = Question([("a", "we"), ("b", "we")], [[("a", True)], [("b", False)]], [])
            self.assertTrue(same(few_rows(ours, operation), [[]]))
            self.assertTrue(same(few_paper(ours, operation), [[True, False]]))
            self.assertEqual(play_by(ours, operation, [[True, False]], []), [True, False])
            lost = Question([("a", "we")], [[("a", True)], [("a", False)]], [])
            self.assertIsNone(few_paper(lost, operation))
            self.assertTrue(is_lost_paper(lost, operation, lost_paper(lost, operation)))
            theirs = Question([("a", "they")], [[("a", True)]], [])
            self.assertIsNone(few_paper(theirs, operation))
            paper = lost_paper(theirs, operation)
            self.assertTrue(same(paper, [({"both": 1, "either": 0, "middle": 0}[operation], 0)]))
            self.assertEqual(few_policy(Question([("a", "they")], [], []), operation, [[t] for t, in rows_by_words(theirs, operation)]), {})
            empty = Question([], [[]], [])
            self.assertTrue(same(lost_paper(empty, operation), [(0, 0)]))
            self.assertTrue(same(few_paper(Question([], [], []), operation), [[]]))
        one = Question([("a", "they")], [], [])
        self.assertEqual([few_rows(one, operation) for operation in OPERATIONS], [[[True], [False]], [[False], [True]], [[False], [True]]])
        self.assertEqual(few_rows(KEPT, "middle"), [[False, False], [True, True], [True, False], [False, True]])

    def test_a_way_by_one_literal(self):
        question = Question([("a", "we")], [[("a", True)], [("a", False)]], [])
        copy = ("a", 0)
        self.assertTrue(is_lost_paper(question, "middle", (copy, [(0, 1)], [(0, 0)])))
        self.assertFalse(is_lost_paper(question, "middle", (copy, [(0, 0)], [(0, 1)])))
        self.assertFalse(is_lost_paper(question, "middle", (copy, [], [])))
        self.assertFalse(is_lost_paper(question, "middle", (("a", False), [(0, 1)], [(0, 0)])))
        self.assertFalse(is_lost_paper(question, "middle", (copy, [(0, True)], [(0, 0)])))
        self.assertFalse(is_lost_paper(question, "middle", [(0, 0)]))
        self.assertTrue(is_lost_paper(question, "both", [(0, 0), (0, 1)]))
        self.assertTrue(is_lost_paper(question, "either", [(0, 1), (0, 0)]))
        self.assertFalse(is_lost_paper(question, "either", [(0, 0), (0, 1)]))

    def test_any_object(self):
        for thing in any_objects():
            for operation in OPERATIONS:
                self.assertIs(is_few(KEPT, operation, thing), False)
                self.assertIs(is_lost_paper(LOST, operation, thing), False)
        for thing in [(("z", 2), None, None), (None, [], []), ((["z"], 0), [], []), (("z", 2), [None], [None]), [None], [(0,)], [[], []]]:
            self.assertIs(is_lost_paper(LOST, "middle", thing), False)
        for thing in [[[True, True, True]], [[1, 1, 1]] * 3, [[True, True, True], [False, True, False], None], "abc", (None,) * 3]:
            self.assertIs(is_few(KEPT, "both", thing), False)

    def test_at_the_limits(self):
        for operation, question in plain_questions(1150, 12, most=14, least=14, clauses=30):
            few, lost = few_paper(question, operation), lost_paper(question, operation)
            self.assertIs(few is None, lost is not None)
            self.assertIs(is_lost_paper(question, operation, lost), lost is not None)
        for operation, question in plain_questions(1151, 12, most=14, least=14, clauses=8):
            few = few_paper(question, operation)
            if few is not None:
                truths = theirs_of(question, few[0])
                play = play_by(question, operation, few, truths[::-1])
                self.assertTrue(all(holds(question, play, wish) for wish in question.wishes()))

    def test_errors(self):
        for ask in ASKED + [lambda q, o: classes_of(q)]:
            for thing in any_objects():
                if not isinstance(thing, Question):
                    raised(self, errors.BadQuestion, ask, thing, None, question=thing)
            for question in [
                Question([("a", (1, 2))], [], []), Question([], [], [[]]), Question([("a", "we")], [[("a", True)]], [[("a", True)]]),
            ]:
                raised(self, errors.BadPlain, ask, question, None, question=question)
        for ask in ASKED:
            for thing in any_objects():
                raised(self, errors.BadOperation, ask, KEPT, thing, operation=thing)
            wide = Question([(name, "we") for name in "abcd"], [[("a", True), ("b", True), ("c", False), ("d", False)]], [])
            for operation in OPERATIONS:
                raised(self, errors.BadOperation, ask, wide, operation, operation=operation)
        for thing in any_objects():
            raised(self, errors.BadFew, play_by, KEPT, "both", thing, None, few=thing)
            raised(self, errors.BadFew, few_policy, KEPT, "both", thing, few=thing)
        few = few_paper(KEPT, "both")
        for truths, index in [
            (None, 0), ("ab", 0), ({}, 0), (True, 0), ([], 2), ([True], 2), ([True] * 3, 2), ([0, True], 0), ([True, None], 1),
            ([True, True, True, 1], 3), ([True, 1, True], 1), ((), 2),
        ]:
            raised(self, errors.BadTruths, play_by, KEPT, "both", few, truths, index=index)


if __name__ == "__main__":
    unittest.main()
