"""The document's words gone through in the plainest way, to hold the program against.

Questions are made by chance with a told seed, so each run sees the same.
"""

import random
from copy import deepcopy
from fractions import Fraction
from itertools import product

from marksinturn.desks import Desk
from marksinturn.errors import BadPaper, MarkError
from marksinturn.questions import Question
from marksinturn.refusals import BadCircuit, BadLot
from marksinturn.searches import Search
from marksinturn.teams import Team

NAMES = ("a", "b", "c", "d", "e", "f", "g", "h", "i", "j", "k", "l", "m", "n")


def a_function():
    """An object that is nothing of what functions are asked for."""


def nested(depth):
    thing = []
    for _ in range(depth):
        thing = [thing]
    return thing


def any_objects():
    """Objects of all the kinds that the document means by any object."""
    return [
        0, 1, -1, 2, 10 ** 30, True, False, "", "a", "we", "they", "most", "least", "we a\n", "0", None,
        [], (), [0], (1, 2), [1, 3], (0, 1), (1, 1), [True], [None], [[]], [[[]]], [("a", True)], (("a", True),),
        [("a", "we")], [[], True], [([], True)], ("most", 0, [], (1, 1), ("any",)), [("most", 0, [], (1, 1), ("any",))],
        {}, {"a": []}, {"a": [([], True)]}, {1: 2, None: 3, (1, "x"): []}, a_function, nested(50),
        Question([], [], []), Question([("a", "we")], [[("a", True)]], []), MarkError(), BadPaper(3), [MarkError()],
        [Question([], [], [])], Team([], []), Team(["u"], [("a", ["u"])]), BadLot([1]), ["lost"], ("lost", [], ("start",)), [("lost", [], ("start",))], "ab", ["a", "b"], (None, None),
        Desk([]), Desk([("a", "we")]), Search(Question([], [], []), []), [Desk([])], BadCircuit(None), ("join", 0, None), ("bar", [True], []), "odd\n", "a :\n",
        ([("k", True)], [("u", "we")], ["k"]), (["a"], [], None), [([], [])], {"m": [True]},
    ]


def as_tuples(thing):
    if isinstance(thing, (list, tuple)):
        return tuple(as_tuples(one) for one in thing)
    if isinstance(thing, dict):
        return {key: as_tuples(one) for key, one in thing.items()}
    return thing


def as_lists(thing):
    if isinstance(thing, (list, tuple)):
        return [as_lists(one) for one in thing]
    if isinstance(thing, dict):
        return {key: as_lists(one) for key, one in thing.items()}
    return thing


def same(one, other):
    """Whether two objects are equal, and of the very same kinds throughout."""
    if type(one) is not type(other):
        return False
    if isinstance(one, (list, tuple)):
        return len(one) == len(other) and all(same(x, y) for x, y in zip(one, other))
    if isinstance(one, dict):
        return list(one) == list(other) and all(same(one[key], other[key]) for key in one)
    return one == other


def spoil(thing):
    """Change all lists and dicts of what was told, as a caller may."""
    if isinstance(thing, dict):
        for one in thing.values():
            spoil(one)
        thing.clear()
    elif isinstance(thing, (list, tuple)):
        for one in thing:
            spoil(one)
        if isinstance(thing, list):
            thing.append("spoilt")


def made_question(source, count, clauses=None, chance=True, guards=True, width=3):
    hands = ["we", "they", "we", "they"]
    if chance:
        hands.append("chance")
    marks = []
    for name in NAMES[:count]:
        hand = source.choice(hands)
        if hand == "chance":
            q = source.randint(2, 7)
            hand = (source.randint(1, q - 1), q)
        marks.append((name, hand))
    many = source.randint(0, 2 * count + 1) if clauses is None else clauses
    wishes, guarded = [], []
    for _ in range(many):
        size = source.randint(0 if source.random() < 0.1 else 1, width)
        clause = [(name, source.random() < 0.5) for name in source.sample(NAMES[:count], min(count, size))]
        (guarded if guards and source.random() < 0.3 else wishes).append(clause)
    return Question(marks, wishes, guarded)


def questions(seed, many, most=4, least=0, **how):
    source = random.Random(seed)
    return [made_question(source, source.randint(least, most), **how) for _ in range(many)]


def all_positions(question, length=None):
    count = len(question.marks())
    lengths = range(count + 1) if length is None else [length]
    return [list(truths) for size in lengths for truths in product([False, True], repeat=size)]


def all_plays(question):
    return all_positions(question, len(question.marks()))


def names_of(question):
    return [name for name, _ in question.marks()]


def hand_at(question, place):
    return question.marks()[place][1]


def holds(question, play, clause):
    truths = dict(zip(names_of(question), play))
    return any(truths[mark] == truth for mark, truth in clause)


def won(question, play):
    if not all(holds(question, play, guard) for guard in question.guards()):
        return True
    return all(holds(question, play, wish) for wish in question.wishes())


def mean(odds, no, yes):
    p, q = odds
    return Fraction(p, q) * yes + Fraction(q - p, q) * no


def value(question, position, ours=None, theirs=None):
    """The chance that we win, where policies are played that are passed, the best else."""
    place = len(position)
    if place == len(question.marks()):
        return Fraction(int(won(question, position)))
    hand = hand_at(question, place)
    policy = {"we": ours, "they": theirs}.get(hand)
    if policy is not None:
        truth = tells(question, policy[names_of(question)[place]], position)
        return value(question, position + [truth], ours, theirs)
    no = value(question, position + [False], ours, theirs)
    yes = value(question, position + [True], ours, theirs)
    if hand == "we":
        return max(no, yes)
    if hand == "they":
        return min(no, yes)
    return mean(hand, no, yes)


def tells(question, function, position):
    truths = dict(zip(names_of(question), position))
    for literals, truth in function:
        if all(truths[mark] == side for mark, side in literals):
            return truth
    return False


def fraction(pair):
    return Fraction(pair[0], pair[1])


def pair(number):
    return (number.numerator, number.denominator)


def made_policy(source, question, hand, pairs=3):
    policy = {}
    for place, (name, by) in enumerate(question.marks()):
        if by == hand:
            function = []
            for _ in range(source.randint(0, pairs)):
                ahead = source.sample(names_of(question)[:place], source.randint(0, place))
                function.append(([(mark, source.random() < 0.5) for mark in ahead], source.random() < 0.5))
            policy[name] = function
    return policy


def does_follow(question, hand, policy, position):
    return all(
        tells(question, policy[names_of(question)[place]], position[:place]) == truth
        for place, truth in enumerate(position)
        if hand_at(question, place) == hand
    )


def told_alike(case, function, **named):
    """What a function tells: of lists as of tuples, each time anew, and without changing what was passed."""
    before = deepcopy(named)
    told = function(**named)
    case.assertTrue(same(named, before))
    for shape in (as_lists, as_tuples):
        case.assertTrue(same(function(*[shape(one) for one in named.values()]), told))
    kept = deepcopy(told)
    spoil(told)
    again = function(**named)
    case.assertTrue(same(again, kept), (again, kept))
    return again


def raised(case, error, ask, *passed, **keeps):
    """A call raises just this error, and it keeps just these very objects."""
    with case.assertRaises(error) as caught:
        ask(*passed)
    case.assertIs(type(caught.exception), error)
    case.assertEqual(set(vars(caught.exception)), set(keeps))
    for word, thing in keeps.items():
        kept = getattr(caught.exception, word)
        case.assertTrue(kept is thing or (type(kept) is int and kept == thing), (word, kept, thing))
