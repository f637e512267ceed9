import random
import unittest
from collections import Counter

from marksinturn import errors
from marksinturn.freerows import found_free, free_fault
from marksinturn.questions import Question
from marksinturn.states import is_lost_state, is_won_state
from tests.plain import all_plays, any_objects, as_lists, as_tuples, hand_at, names_of, questions, same, spoil, value, won
from tests.plainrows import start_literals

X, Y = ("x", True), ("y", True)
NOT_X, NOT_Y = ("x", False), ("y", False)
WISHES = [[X, Y], [NOT_X, NOT_Y]]
QUESTION = Question([("x", "they"), ("y", "we")], WISHES, [])
WON = [
    ("won", [NOT_X, Y], ("start",)), ("won", [NOT_X], ("drop", 0)), ("won", [X, NOT_Y], ("start",)), ("won", [X], ("drop", 2)),
    ("won", [], ("join", 1, 3)),
]
OTHER = Question([("y", "we"), ("x", "they")], WISHES, [])
LOST = [
    ("lost", [Y, X], ("start",)), ("lost", [NOT_Y, NOT_X], ("start",)), ("lost", [Y], ("drop", 0)), ("lost", [NOT_Y], ("drop", 1)),
    ("lost", [], ("join", 2, 3)),
]
CHANCE = Question([("x", (1, 2))], [], [])


def is_free_form(question, row):
    """The form of a free row, of things that are lists and tuples throughout."""
    names = names_of(question)
    if not isinstance(row, (list, tuple)) or len(row) != 3 or row[0] not in ("lost", "won"):
        return False
    if any(one[0] not in names for one in row[1]):
        return False
    at = [names.index(mark) for mark, _ in row[1]]
    if at != sorted(set(at)):
        return False
    how = tuple(row[2])
    return how == ("start",) or (
        (len(how), how[0]) in [(2, "drop"), (3, "join")] and all(type(one) is int and one >= 0 for one in how[1:])
    )


def why_not_free(question, rows, row):
    """What is wrong with a free row behind others, by the words of the document."""
    if not is_free_form(question, row):
        return "form"
    kind, literals, how = row
    if rows and rows[0][0] != kind:
        return "kind"
    literals = [tuple(one) for one in literals]
    hands = dict(question.marks())
    if how[0] == "start":
        return None if start_literals(question, kind, literals) else "literals"
    if any(index >= len(rows) for index in how[1:]):
        return "how"
    named = [dict(rows[index][1]) for index in how[1:]]
    if how[0] == "drop":
        if not named[0]:
            return "how"
        mark = rows[how[1]][1][-1][0]
        if hands[mark] != {"lost": "they", "won": "we"}[kind]:
            return "hand"
        made = {one: truth for one, truth in named[0].items() if one != mark}
    else:
        unlike = [mark for mark in named[0] if mark in named[1] and named[0][mark] != named[1][mark]]
        if len(unlike) != 1 or named[0][unlike[0]] != (kind == "lost"):
            return "how"
        mark = unlike[0]
        if hands[mark] != {"lost": "we", "won": "they"}[kind]:
            return "hand"
        made = {one: truth for lot in named for one, truth in lot.items() if one != mark}
    return None if made == dict(literals) else "literals"


def free_fault_by_words(question, paper):
    if not paper:
        return (0, "form")
    for index, row in enumerate(paper):
        why = why_not_free(question, paper[:index], row)
        if why is not None:
            return (index, why)
    return None


def spoilt_free(source, question, row):
    kind, literals, how = row
    names = names_of(question)
    what = source.randrange(5)
    if what == 0:
        kind = {"lost": "won", "won": "lost"}[kind]
    elif what == 1 and literals:
        at = source.randrange(len(literals))
        literals = literals[:at] + source.choice([[], [(literals[at][0], not literals[at][1])]]) + literals[at + 1:]
    elif what == 2 and names:
        literals = sorted(literals + [(source.choice(names), source.random() < 0.5)], key=lambda one: names.index(one[0]))
    elif what == 3:
        how = (how[0],) + tuple(max(0, index + source.choice([-1, 1, 2, 50])) for index in how[1:])
    else:
        how = source.choice([("start",), ("drop", 0), ("join", 0, 1), ("join", 1, 0), ("drop", 1), ("lost",), ("join", 2)])
    return (kind, literals, how)


def spoken_by_first_row(question, free, play):
    """Whether the hand of the rows sets its marks in a play by the first row, by the words of the document."""
    kind = free[0][0]
    hand = {"lost": "they", "won": "we"}[kind]
    names = names_of(question)
    for place, truth in enumerate(play):
        if hand_at(question, place) != hand:
            continue
        truths = dict(zip(names, play[:place]))
        tells = False
        for _, literals, how in free:
            if how[0] == "drop" and free[how[1]][1][-1][0] == names[place]:
                if all(mark in truths and (truths[mark] == side) == (kind == "won") for mark, side in literals):
                    tells = free[how[1]][1][-1][1] == (kind == "won")
                    break
        if tells != truth:
            return False
    return True


class FreeFaultTest(unittest.TestCase):
    def test_example(self):
        for shape in (WON, as_lists(WON), as_tuples(WON)):
            self.assertIsNone(free_fault(question=QUESTION, thing=shape))
        self.assertIsNone(free_fault(OTHER, LOST))
        self.assertEqual(found_free(QUESTION)[0][0], "won")
        self.assertEqual(found_free(OTHER)[0][0], "lost")

    def test_each_word(self):
        for index, row, why in [
            (0, None, "form"), (1, ("won", [NOT_X]), "form"), (1, ("none", [NOT_X], ("drop", 0)), "form"), (1, ("won", [Y, X], ("start",)), "form"),
            (1, ("won", [X, X], ("start",)), "form"), (1, ("won", [NOT_X], ("drop", -1)), "form"), (1, ("won", [NOT_X], ("drop", True)), "form"),
            (1, ("won", [NOT_X], ("won",)), "form"), (1, ("won", [NOT_X], "start"), "form"), (1, ("won", [("z", True)], ("start",)), "form"),
            (1, ("lost", [X, Y], ("start",)), "kind"), (1, ("lost", [NOT_X], ("drop", 9)), "kind"), (1, ("won", [NOT_X], ("drop", 1)), "how"),
            (4, ("won", [], ("join", 3, 4)), "how"), (4, ("won", [], ("join", 3, 1)), "how"), (4, ("won", [], ("join", 1, 1)), "how"),
            (4, ("won", [], ("join", 0, 2)), "how"), (5, ("won", [], ("drop", 4)), "how"), (4, ("won", [], ("drop", 1)), "hand"),
            (4, ("won", [], ("drop", 0)), "literals"), (4, ("won", [X], ("join", 1, 3)), "literals"), (4, ("won", [], ("start",)), "literals"),
            (4, ("won", [X, Y], ("start",)), "literals"), (4, ("won", [X], ("join", 0, 3)), "literals"),
        ]:
            paper = WON[:index] + [row, None]
            self.assertEqual(free_fault(QUESTION, paper), (index, why), row)
            self.assertEqual(free_fault(QUESTION, as_lists(paper)), (index, why), row)
        self.assertEqual(free_fault(OTHER, LOST[:4] + [("lost", [], ("join", 3, 2))]), (4, "how"))
        self.assertEqual(free_fault(Question([("x", "we"), ("y", "we")], WISHES, []), WON), (4, "hand"))
        both = Question([("x", "they"), ("y", "they")], [], [])
        paper = [("won", [NOT_X, NOT_Y], ("start",)), ("won", [X, Y], ("start",)), ("won", [], ("join", 0, 1))]
        self.assertEqual(free_fault(both, paper), (2, "how"))
        self.assertEqual(free_fault(QUESTION, []), (0, "form"))
        self.assertEqual(free_fault(QUESTION, ()), (0, "form"))

    def test_by_their_words(self):
        whys = Counter()
        source = random.Random(90)
        for question in questions(91, 80, chance=False):
            paper = found_free(question)
            self.assertIsNone(free_fault_by_words(question, paper))
            for _ in range(40):
                other = list(paper)
                for _ in range(source.randint(1, 2)):
                    at = source.randrange(len(other))
                    other[at] = spoilt_free(source, question, other[at])
                fault = free_fault(question, other)
                self.assertEqual(fault, free_fault_by_words(question, other), other)
                whys[fault and fault[1]] += 1
        self.assertEqual(set(whys), {None, "form", "kind", "how", "hand", "literals"})

    def test_any_object(self):
        for thing in any_objects():
            if thing == [("lost", [], ("start",))]:
                self.assertEqual(free_fault(QUESTION, thing), (0, "literals"))
            else:
                self.assertEqual(free_fault(QUESTION, thing), (0, "form"))

    def test_errors(self):
        for thing in any_objects():
            if not isinstance(thing, Question):
                for ask in (lambda q: free_fault(q, None), found_free):
                    with self.assertRaises(errors.BadQuestion) as caught:
                        ask(thing)
                    self.assertIs(caught.exception.question, thing)
        for ask in (lambda q: free_fault(q, None), found_free):
            with self.assertRaises(errors.HasChance) as caught:
                ask(CHANCE)
            self.assertIs(caught.exception.question, CHANCE)


class FoundFreeTest(unittest.TestCase):
    def test_just_one(self):
        kinds = Counter()
        for question in questions(92, 150, most=5, chance=False):
            paper = found_free(question=question)
            self.assertIsNone(free_fault(question, paper))
            self.assertIsNone(free_fault_by_words(question, paper))
            self.assertEqual(paper[-1][1], [])
            self.assertEqual({row[0] for row in paper}, {"won" if value(question, []) == 1 else "lost"})
            self.assertTrue(same(found_free(question), paper))
            kinds[paper[0][0]] += len(paper) > 2
            for play in all_plays(question):
                if spoken_by_first_row(question, paper, play):
                    self.assertEqual(won(question, play), paper[0][0] == "won")
        self.assertGreater(min(kinds.values()), 10)

    def test_edges(self):
        self.assertTrue(same(found_free(Question([], [], [])), [("won", [], ("start",))]))
        self.assertTrue(same(found_free(Question([], [[]], [])), [("lost", [], ("start",))]))
        self.assertTrue(same(found_free(Question([("a", "we")], [[]], [[]])), [("won", [], ("start",))]))

    def test_new_each_time(self):
        paper = found_free(QUESTION)
        before = found_free(QUESTION)
        spoil(paper)
        self.assertTrue(same(found_free(QUESTION), before))

    def test_at_the_limits(self):
        for seed in range(93, 99):
            question = questions(seed, 1, least=10, most=10, clauses=30, width=6, chance=False, guards=False)[0]
            paper = found_free(question)
            self.assertIsNone(free_fault(question, paper))
            self.assertEqual(paper[-1][1], [])


class StateTest(unittest.TestCase):
    def test_states(self):
        for question in questions(100, 60, chance=False):
            names = names_of(question)
            for state in states(len(names)):
                truths = {name: sign == "1" for name, sign in zip(names, state) if sign != "-"}

                def has_for(clause):
                    return any(truths.get(mark) is truth for mark, truth in clause)

                def is_against(clause):
                    return all(truths.get(mark) is (not truth) for mark, truth in clause)

                wishes, guards = question.wishes(), question.guards()
                lost = any(is_against(wish) for wish in wishes) and all(has_for(guard) for guard in guards)
                sure = any(is_against(guard) for guard in guards) or all(has_for(wish) for wish in wishes)
                self.assertIs(is_lost_state(question=question, state=state), lost)
                self.assertIs(is_won_state(question=question, state=state), sure)

    def test_errors(self):
        for ask in (is_lost_state, is_won_state):
            for thing in any_objects() + ["1", "111", "1x", "1 ", "1\n", ["1", "0"], "\u0661\u0660"]:
                if not isinstance(thing, Question):
                    with self.assertRaises(errors.BadQuestion) as caught:
                        ask(thing, None)
                    self.assertIs(caught.exception.question, thing)
                with self.assertRaises(errors.BadState) as caught:
                    ask(QUESTION, thing)
                self.assertIs(caught.exception.state, thing)
            with self.assertRaises(errors.HasChance) as caught:
                ask(CHANCE, None)
            self.assertIs(caught.exception.question, CHANCE)
        self.assertIs(is_lost_state(Question([], [[]], []), ""), True)
        self.assertIs(is_won_state(Question([], [], []), ""), True)


def states(count):
    if count == 0:
        return [""]
    return [state + sign for state in states(count - 1) for sign in "01-"]


if __name__ == "__main__":
    unittest.main()
