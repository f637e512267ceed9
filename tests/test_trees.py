import random
import unittest

from marksinturn import errors
from marksinturn.cheapest import cheapest_price, cheapest_tree, greatest_table, table_fault
from marksinturn.questions import Question
from marksinturn.trees import is_tree, tree_price, tree_state
from tests.plain import any_objects, as_lists, made_question, questions, raised, same, told_alike, value
from tests.test_freerows import CHANCE, states

WISHES = [[("a", True), ("b", True)], [("a", False), ("b", False)]]
THEIRS_FIRST = Question([("a", "they"), ("b", "we")], WISHES, [])
OURS_FIRST = Question([("b", "we"), ("a", "they")], WISHES, [])
LEAST = ("join", "a", ("drop", "b", ("leaf", "01")), ("drop", "b", ("leaf", "10")))
MOST = ("join", "b", ("drop", "a", ("leaf", "00")), ("drop", "a", ("leaf", "11")))
KINDS = ("most", "least")


def set_by_state(question, state):
    return {name: sign == "1" for (name, _), sign in zip(question.marks(), state) if sign != "-"}


def leaf_cost(question, kind, prices, state):
    """What a state costs as a leaf, by the words of the document; None if it is none."""
    truths = set_by_state(question, state)

    def holds(clause):
        return any(truths.get(mark) is side for mark, side in clause)

    def is_against(clause):
        return all(truths.get(mark) is (not side) for mark, side in clause)

    wishes, guards = question.wishes(), question.guards()
    if kind == "least":
        return 1 if any(is_against(guard) for guard in guards) or all(holds(wish) for wish in wishes) else None
    lost = [price for wish, price in zip(wishes, prices) if is_against(wish)]
    return min(lost) if lost and all(holds(guard) for guard in guards) else None


def dropper(kind):
    return {"most": "they", "least": "we"}[kind]


def as_state(question, truths):
    return "".join({None: "-", False: "0", True: "1"}[truths.get(name)] for name, _ in question.marks())


def row_by_words(question, kind, prices, thing):
    """The pair of a tree's row and its price, of things in the forms of trees; None for none."""
    names = [name for name, _ in question.marks()]
    hands = dict(question.marks())
    if thing[0] == "leaf":
        cost = leaf_cost(question, kind, prices, thing[1]) if len(thing) == 2 and thing[1] in states(len(names)) else None
        return None if cost is None else (set_by_state(question, thing[1]), cost)
    if (thing[0], len(thing)) not in (("join", 4), ("drop", 3)) or thing[1] not in names:
        return None
    mark = thing[1]
    branches = [row_by_words(question, kind, prices, branch) for branch in thing[2:]]
    if None in branches or (hands[mark] == dropper(kind)) != (thing[0] == "drop"):
        return None
    rows = [row for row, _ in branches]
    if thing[0] == "join":
        if rows[0].get(mark) is not False or rows[1].get(mark) is not True:
            return None
        if any(name != mark and name in rows[1] and rows[1][name] is not truth for name, truth in rows[0].items()):
            return None
    elif mark not in rows[0] or any(hands[name] != hands[mark] and names.index(name) > names.index(mark) for name in rows[0]):
        return None
    made = {name: truth for row in rows for name, truth in row.items() if name != mark}
    return made, sum(cost for _, cost in branches)


def rows_with_prices(question, kind, prices):
    """The least price of a tree for each row that one has, by putting together all that there is."""
    names = [name for name, _ in question.marks()]
    hands = dict(question.marks())
    best = {}
    for state in states(len(names)):
        cost = leaf_cost(question, kind, prices, state)
        if cost is not None:
            best[state] = cost
    changed = True
    while changed:
        changed = False
        found = []
        for one, cost in best.items():
            row = set_by_state(question, one)
            for mark in row:
                if hands[mark] == dropper(kind):
                    if all(hands[name] == hands[mark] or names.index(name) < names.index(mark) for name in row):
                        found.append(({name: row[name] for name in row if name != mark}, cost))
                elif not row[mark]:
                    for other, more in best.items():
                        behind = set_by_state(question, other)
                        if behind.get(mark) and all(behind.get(name, row[name]) is row[name] for name in row if name != mark):
                            found.append(({name: truth for name, truth in {**row, **behind}.items() if name != mark}, cost + more))
        for row, cost in found:
            state = as_state(question, row)
            if cost < best.get(state, cost + 1):
                best[state] = cost
                changed = True
    return best


def is_within(state, other):
    return all(sign in ("-", there) for sign, there in zip(state, other))


def table_fault_by_words(question, kind, prices, table):
    names = [name for name, _ in question.marks()]
    hands = [hand for _, hand in question.marks()]
    every = sorted(states(len(names)))
    if not isinstance(table, dict) or any(key not in every for key in table):
        return ""
    for state in every:
        if type(table.get(state)) is not int or table[state] < 0:
            return state
    for state in every:
        bounds = [leaf_cost(question, kind, prices, state)]
        for at, sign in enumerate(state):
            sides = [state[:at] + side + state[at + 1:] for side in "01"]
            if sign != "-":
                bounds.append(table[state[:at] + "-" + state[at + 1:]])
            elif hands[at] != dropper(kind):
                bounds.append(table[sides[0]] + table[sides[1]])
            else:
                opened = [
                    "".join("-" if i > at and hands[i] != dropper(kind) else there for i, there in enumerate(side)) for side in sides
                ]
                bounds += [table[one] for one in opened]
        if any(bound is not None and table[state] > bound for bound in bounds):
            return state
    return None


def priced(seed, many, most=3, **how):
    source = random.Random(seed)
    for question in questions(seed, many, most=most, chance=False, **how):
        dear = source.choice([1, 3, 1000])
        yield question, [source.randint(1, dear) for _ in question.wishes()]


def made_trees(source, question, kind, tries=40):
    """Trees made by chance, of each shape."""
    names = [name for name, _ in question.marks()]
    prices = [1] * len(question.wishes())
    trees = []
    for _ in range(tries):
        what = source.choice(["leaf", "drop", "join"]) if trees and names else "leaf"
        if what == "leaf":
            tree = ("leaf", source.choice(states(len(names))))
        elif what == "drop":
            tree = ("drop", source.choice(names), source.choice(trees))
        else:
            tree = ("join", source.choice(names), source.choice(trees), source.choice(trees))
        if row_by_words(question, kind, prices, tree) is not None:
            trees.append(tree)
    return trees


def spoilt_tree(source, question, tree):
    """A tree with one thing otherwise."""
    if tree[0] != "leaf" and source.random() < 0.5:
        at = source.randrange(2, len(tree))
        return tree[:at] + (spoilt_tree(source, question, tree[at]),) + tree[at + 1:]
    names = [name for name, _ in question.marks()]
    what = source.randrange(4)
    if tree[0] == "leaf":
        if what == 0 or not names:
            return source.choice([("leaf", tree[1] + "-"), ("leaf", tree[1][1:] + "x"), ("leaf",), ("leaf", tree[1], tree[1])])
        at = source.randrange(len(names))
        return ("leaf", tree[1][:at] + source.choice("01-") + tree[1][at + 1:])
    if what == 0:
        return (tree[0], source.choice(names)) + tree[2:]
    if what == 1:
        return tree[:2] + tree[2:][::-1]
    if what == 2:
        return source.choice([tree[2], tree + (tree[2],), tree[:-1], ("drop",) + tree[1:], ("join",) + tree[1:]])
    return ("drop", source.choice(names), tree)


class TreeTest(unittest.TestCase):
    def test_example(self):
        for question, kind, tree in [(THEIRS_FIRST, "least", LEAST), (OURS_FIRST, "most", MOST)]:
            self.assertIs(told_alike(self, is_tree, question=question, kind=kind, thing=tree), True)
            self.assertEqual(told_alike(self, tree_state, question=question, kind=kind, tree=tree), "--")
            self.assertEqual(told_alike(self, tree_price, question=question, kind=kind, prices=[1, 1], tree=tree), 2)
            told = told_alike(self, cheapest_tree, question=question, kind=kind, prices=[1, 1])
            self.assertTrue(same(told, tree))
            self.assertEqual(told_alike(self, cheapest_price, question=question, kind=kind, prices=[1, 1]), 2)
        self.assertIsNone(cheapest_tree(THEIRS_FIRST, "most", [1, 1]))
        self.assertIsNone(cheapest_price(OURS_FIRST, "least", [1, 1]))
        table = told_alike(self, greatest_table, question=OURS_FIRST, kind="most", prices=[1, 1], limit=9)
        self.assertTrue(same(table, {"--": 2, "-0": 2, "-1": 2, "0-": 1, "00": 1, "01": 1, "1-": 1, "10": 1, "11": 1}))

    def test_by_their_words(self):
        source = random.Random(1000)
        many = {True: 0, False: 0}
        for question, prices in priced(1001, 120, least=1):
            for kind in KINDS:
                trees = made_trees(source, question, kind)
                trees += [spoilt_tree(source, question, tree) for tree in trees for _ in range(3)]
                for tree in trees:
                    right = row_by_words(question, kind, prices, tree)
                    many[right is None] += tree[0] != "leaf"
                    self.assertIs(is_tree(question, kind, tree), right is not None, tree)
                    if right is None:
                        raised(self, errors.BadTree, tree_state, question, kind, tree, tree=tree)
                        raised(self, errors.BadTree, tree_price, question, kind, prices, tree, tree=tree)
                    else:
                        self.assertEqual(tree_state(question, kind, tree), as_state(question, right[0]))
                        self.assertEqual(tree_price(question, kind, prices, as_lists(tree)), right[1])
        self.assertGreater(min(many.values()), 500)

    def test_what_a_leaf_costs(self):
        question = Question([("a", "they")], [[("a", True)], [("a", True)], []], [])
        self.assertEqual(tree_price(question, "most", [3, 2, 5], ("leaf", "0")), 2)
        self.assertEqual(tree_price(question, "most", [3, 4, 1], ("leaf", "0")), 1)
        self.assertEqual(tree_price(question, "most", [3, 4, 9], ("leaf", "1")), 9)
        sure = Question([("a", "we")], [[("a", True)]], [])
        self.assertEqual(tree_price(sure, "least", [1000], ("leaf", "1")), 1)

    def test_any_object(self):
        for thing in any_objects() + [("leaf",), ("leaf", 0), ("leaf", "0-", "0"), ("drop", "a"), ("drop", [], LEAST), ("join", "a", LEAST, None)]:
            for kind in KINDS:
                self.assertIs(is_tree(OURS_FIRST, kind, thing), False)
                raised(self, errors.BadTree, tree_state, OURS_FIRST, kind, thing, tree=thing)
                raised(self, errors.BadTree, tree_price, OURS_FIRST, kind, [1, 1], thing, tree=thing)


class CheapestTest(unittest.TestCase):
    def test_just_one(self):
        shown = {True: 0, False: 0}
        for question, prices in priced(1010, 150):
            for kind in KINDS:
                best = rows_with_prices(question, kind, prices)
                least = best.get("-" * len(question.marks()))
                self.assertIs(least is not None, value(question, []) == (1 if kind == "least" else 0))
                tree = cheapest_tree(question, kind, prices)
                self.assertEqual(cheapest_price(question, kind, prices), least)
                shown[tree is None] += 1
                if tree is not None:
                    self.assertEqual(row_by_words(question, kind, prices, tree), ({}, least))
                for limit in (0, 1, 2, 5, 10 ** 6) + ((least, least + 1) if least else ()):
                    table = greatest_table(question, kind, prices, limit)
                    self.assertEqual(list(table), sorted(states(len(question.marks()))))
                    for state, number in table.items():
                        prices_within = [cost for row, cost in best.items() if is_within(row, state)]
                        self.assertEqual(number, min(prices_within + [limit]))
                    self.assertIsNone(table_fault(question, kind, prices, table))
                    self.assertIsNone(table_fault_by_words(question, kind, prices, table))
        self.assertGreater(min(shown.values()), 50)

    def test_tables_by_their_words(self):
        source = random.Random(1020)
        faults = {"right": 0, "keys": 0, "wrong": 0}
        for question, prices in priced(1021, 150):
            for kind in KINDS:
                for _ in range(8):
                    table = greatest_table(question, kind, prices, source.choice([1, 2, 9]))
                    for _ in range(source.randint(0, 2)):
                        state = source.choice(sorted(states(len(question.marks()))))
                        what = source.randrange(6)
                        if what == 0:
                            table.pop(state, None)
                        elif what == 1:
                            table[state] = source.choice([-1, True, None, "1", [1]])
                        elif what == 2 and source.random() < 0.3:
                            table[source.choice([state + "-", "x", 0, None, ("-",)])] = 1
                        else:
                            table[state] = source.randint(0, 4)
                    fault = table_fault(question, kind, prices, table)
                    self.assertEqual(fault, table_fault_by_words(question, kind, prices, table), table)
                    faults["right" if fault is None else "keys" if fault == "" else "wrong"] += 1
        self.assertGreater(min(faults.values()), 20)

    def test_any_table(self):
        for thing in any_objects():
            if not isinstance(thing, dict) or thing:
                self.assertEqual(table_fault(OURS_FIRST, "most", [1, 1], thing), "")
        self.assertEqual(table_fault(OURS_FIRST, "most", [1, 1], {}), "--")
        self.assertEqual(table_fault(OURS_FIRST, "most", [1, 1], {"--": 0, "-0": 0, "x": 0}), "")
        lacking = {state: 0 for state in states(2) if state != "-1"}
        self.assertEqual(table_fault(OURS_FIRST, "most", [1, 1], lacking), "-1")
        self.assertEqual(table_fault(OURS_FIRST, "most", [1, 1], {**lacking, "-1": True}), "-1")
        self.assertEqual(table_fault(OURS_FIRST, "most", [1, 1], {**lacking, "-1": 5, "00": 1}), "-1")
        self.assertIsNone(table_fault(OURS_FIRST, "most", [1, 1], {**lacking, "-1": 0}))

    def test_edges(self):
        empty = Question([], [[]], [])
        self.assertEqual(cheapest_tree(empty, "most", [4]), ("leaf", ""))
        self.assertEqual(cheapest_price(empty, "most", (4,)), 4)
        self.assertEqual(greatest_table(empty, "most", [4], 9), {"": 4})
        self.assertEqual(greatest_table(empty, "most", [4], 3), {"": 3})
        self.assertEqual(greatest_table(empty, "least", [4], 7), {"": 7})
        self.assertEqual(table_fault(empty, "most", [4], {"": 5}), "")
        self.assertIsNone(table_fault(empty, "most", [4], {"": 4}))
        self.assertEqual(cheapest_tree(Question([], [], []), "least", []), ("leaf", ""))
        self.assertIsNone(cheapest_tree(Question([], [], []), "most", []))

    def test_prices_hang_together(self):
        """A wish that costs much is gone round where cheaper ones show the same."""
        marks = [("a", "we"), ("b", "they")]
        wishes = [[("a", True)], [("a", False)], [("a", True), ("b", True)], [("a", False), ("b", False)]]
        question = Question(marks, wishes, [])
        self.assertEqual(cheapest_price(question, "most", [10, 10, 1, 2]), 3)
        self.assertEqual(cheapest_price(question, "most", [1, 10, 2, 7]), 8)
        self.assertEqual(cheapest_price(question, "most", [1000] * 4), 2000)

    def test_at_the_limits(self):
        source = random.Random(1030)
        for clauses, width in [(8, 4), (12, 3), (20, 5), (30, 6)]:
            question = made_question(source, 8, clauses=clauses, chance=False, width=width)
            prices = [source.randint(1, 1000) for _ in question.wishes()]
            for kind in KINDS:
                tree = cheapest_tree(question, kind, prices)
                price = cheapest_price(question, kind, prices)
                if tree is not None:
                    self.assertEqual(tree_state(question, kind, tree), "-" * 8)
                    self.assertEqual(tree_price(question, kind, prices, tree), price)
                table = greatest_table(question, kind, prices, 5000)
                self.assertEqual(table["-" * 8], 5000 if price is None else min(5000, price))
                self.assertIsNone(table_fault(question, kind, prices, table))

    def test_errors(self):
        asked = [
            lambda q, k, p: is_tree(q, k, None), lambda q, k, p: tree_state(q, k, None), lambda q, k, p: tree_price(q, k, p, None),
            cheapest_tree, cheapest_price, lambda q, k, p: greatest_table(q, k, p, None), lambda q, k, p: table_fault(q, k, p, None),
        ]
        for ask in asked:
            for thing in any_objects():
                if not isinstance(thing, Question):
                    raised(self, errors.BadQuestion, ask, thing, None, None, question=thing)
                if thing not in KINDS:
                    raised(self, errors.BadKind, ask, OURS_FIRST, thing, None, kind=thing)
            raised(self, errors.HasChance, ask, CHANCE, None, None, question=CHANCE)
        for ask in asked[2:]:
            for thing in any_objects():
                if thing in ((1, 1), (1, 2), [1, 3]):
                    continue
                if isinstance(thing, (list, tuple)) and not thing:
                    raised(self, errors.BadPrices, ask, OURS_FIRST, "most", thing, index=2)
                else:
                    raised(self, errors.BadPrices, ask, OURS_FIRST, "most", thing, index=0)
                if type(thing) is not int or thing < 1:
                    raised(self, errors.BadPrices, ask, OURS_FIRST, "most", [1, 7, thing], index=2)
                    raised(self, errors.BadPrices, ask, OURS_FIRST, "most", [1, thing, 7, None], index=1)
            raised(self, errors.BadPrices, ask, OURS_FIRST, "least", [1], index=2)
            raised(self, errors.BadPrices, ask, OURS_FIRST, "least", [1, 2, 3], index=2)
        for thing in any_objects():
            if type(thing) is not int or thing < 0:
                raised(self, errors.BadLimit, greatest_table, OURS_FIRST, "most", [1, 1], thing, limit=thing)


if __name__ == "__main__":
    unittest.main()
