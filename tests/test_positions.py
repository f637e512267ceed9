import unittest

from marksinturn.errors import BadPlay, BadPosition, BadQuestion
from marksinturn.positions import certain, decider, is_play, is_position, is_won, set_at
from marksinturn.questions import Question
from tests.plain import all_plays, all_positions, any_objects, holds, names_of, questions, same, won

QUESTION = Question(
    [("a", "we"), ("b", (1, 3)), ("c", "they")],
    [[("a", True), ("b", False)], [("a", True), ("c", True)]],
    [[("c", False)]],
)


def fate(question, position):
    """What certain tells, by its words."""
    truths = dict(zip(names_of(question), position))

    def has_for(clause):
        return any(truths.get(mark) is truth for mark, truth in clause)

    def is_against(clause):
        return all(truths.get(mark) is (not truth) for mark, truth in clause)

    wishes, guards = question.wishes(), question.guards()
    lost = any(is_against(wish) for wish in wishes) and all(has_for(guard) for guard in guards)
    sure = any(is_against(guard) for guard in guards) or all(has_for(wish) for wish in wishes)
    assert not (lost and sure)
    return "lost" if lost else "won" if sure else None


class PositionTest(unittest.TestCase):
    def test_example(self):
        self.assertTrue(is_play(QUESTION, [True, False, True]))
        self.assertEqual(set_at(QUESTION, [True, False, True]), {"a": True, "b": False, "c": True})
        self.assertEqual(decider(QUESTION, [True, False, True]), ("guard", 0))
        self.assertEqual(decider(QUESTION, [False, True, False]), ("wish", 0))
        self.assertEqual(certain(QUESTION, [True]), "won")
        self.assertIsNone(certain(QUESTION, [False, True]))

    def test_is_position_and_play(self):
        for position in all_positions(QUESTION):
            self.assertIs(is_position(question=QUESTION, thing=position), True)
            self.assertIs(is_position(QUESTION, tuple(position)), True)
            self.assertIs(is_play(question=QUESTION, thing=tuple(position)), len(position) == 3)
        for thing in [[True] * 4, [1], [0, 1], "ab", None, [None], [[True]], {}, {True: 1}]:
            self.assertIs(is_position(QUESTION, thing), False)
            self.assertIs(is_play(QUESTION, thing), False)
        self.assertEqual([x for x in any_objects() if is_position(QUESTION, x)], [[], (), [True]])
        self.assertEqual([x for x in any_objects() if is_play(Question([], [], []), x)], [[], ()])

    def test_set_at(self):
        self.assertTrue(same(set_at(question=QUESTION, position=(True, False)), {"a": True, "b": False}))
        self.assertEqual(set_at(QUESTION, []), {})
        self.assertEqual(list(set_at(Question([("z", "we"), ("b", "we")], [], []), [True, True])), ["z", "b"])

    def test_by_their_words(self):
        for question in questions(5, 60):
            for play in all_plays(question):
                self.assertIs(is_won(question=question, play=play), won(question, play))
                told = decider(question=question, play=tuple(play))
                guards = [not holds(question, play, guard) for guard in question.guards()]
                wishes = [not holds(question, play, wish) for wish in question.wishes()]
                if any(guards):
                    self.assertEqual(told, ("guard", guards.index(True)))
                elif any(wishes):
                    self.assertEqual(told, ("wish", wishes.index(True)))
                else:
                    self.assertIsNone(told)
            for position in all_positions(question):
                word = certain(question=question, position=position)
                self.assertEqual(word, fate(question, position))
                if len(position) == len(names_of(question)):
                    self.assertEqual(word, "won" if won(question, position) else "lost")
                if word is not None:
                    for play in all_plays(question):
                        if play[:len(position)] == position:
                            self.assertEqual(won(question, play), word == "won")

    def test_edges(self):
        none = Question([], [], [])
        self.assertEqual((is_won(none, []), decider(none, []), certain(none, [])), (True, None, "won"))
        lost = Question([], [[]], [])
        self.assertEqual((is_won(lost, []), decider(lost, []), certain(lost, ())), (False, ("wish", 0), "lost"))
        both = Question([], [[]], [[], []])
        self.assertEqual((is_won(both, []), decider(both, []), certain(both, [])), (True, ("guard", 0), "won"))

    def test_errors(self):
        for ask in (set_at, certain):
            for thing in any_objects():
                if not isinstance(thing, Question):
                    with self.assertRaises(BadQuestion) as caught:
                        ask(thing, None)
                    self.assertIs(caught.exception.question, thing)
                if not is_position(QUESTION, thing):
                    with self.assertRaises(BadPosition) as caught:
                        ask(QUESTION, thing)
                    self.assertIs(caught.exception.position, thing)
        for ask in (is_won, decider):
            for thing in any_objects() + [[True, True], [True] * 4]:
                if not isinstance(thing, Question):
                    with self.assertRaises(BadQuestion) as caught:
                        ask(thing, None)
                    self.assertIs(caught.exception.question, thing)
                with self.assertRaises(BadPlay) as caught:
                    ask(QUESTION, thing)
                self.assertIs(caught.exception.play, thing)
        for ask in (is_position, is_play):
            for thing in any_objects():
                if not isinstance(thing, Question):
                    with self.assertRaises(BadQuestion) as caught:
                        ask(thing, [])
                    self.assertIs(caught.exception.question, thing)


if __name__ == "__main__":
    unittest.main()
