"""Rows and papers by the document's words, and papers made by chance with a told seed."""

from fractions import Fraction
from math import gcd

from marksinturn.rowmakers import next_row, start_row
from tests.plain import fraction, hand_at, mean, names_of


def is_form(question, row):
    """The form of a row, of things that are tuples and lists throughout."""
    names = names_of(question)
    if not isinstance(row, (list, tuple)) or len(row) != 5:
        return False
    kind, place, literals, number, how = row
    if kind not in ("most", "least") or type(place) is not int or not 0 <= place <= len(names):
        return False
    if not isinstance(literals, (list, tuple)):
        return False
    for one in literals:
        if not isinstance(one, (list, tuple)) or len(one) != 2 or one[0] not in names or type(one[1]) is not bool:
            return False
    at = [names.index(mark) for mark, _ in literals]
    if at != sorted(set(at)) or any(one >= place for one in at):
        return False
    if not isinstance(number, (list, tuple)) or len(number) != 2 or any(type(one) is not int for one in number):
        return False
    p, q = number
    if not 0 <= p <= q or q < 1 or gcd(p, q) != 1:
        return False
    return tuple(how) in [("lost",), ("won",), ("any",), ("none",)] or (
        (len(how), how[0]) in [(2, "drop"), (3, "join")] and all(type(one) is int and one >= 0 for one in how[1:])
    )


def tells_of(question, row, position):
    """Whether a row tells of a position."""
    truths = dict(zip(names_of(question), position))
    if len(position) > row[1]:
        return False
    return all(mark in truths and (truths[mark] == truth) == (row[0] == "least") for mark, truth in row[2])


def start_literals(question, word, literals):
    """Whether literals may stand in a start row of this word."""
    lot = [tuple(one) for one in literals]
    turned = [(mark, not truth) for mark, truth in lot]

    def within(clause, some):
        return all(one in some for one in clause)

    def meets(clause, some):
        return any(one in some for one in clause)

    if word == "lost":
        some = any(within(wish, lot) for wish in question.wishes())
        return some and all(meets(guard, turned) for guard in question.guards())
    if word == "won":
        every = all(meets(wish, lot) for wish in question.wishes())
        return every or any(within(guard, turned) for guard in question.guards())
    return lot == []


def why_not(question, rows, row):
    """What is wrong with a row behind others, by the words of the document."""
    if not is_form(question, row):
        return "form"
    kind, place, literals, number, how = row
    count = len(question.marks())
    if len(how) == 1:
        if kind != {"lost": "most", "won": "least", "any": "most", "none": "least"}[how[0]]:
            return "kind"
        if place != count:
            return "place"
        if not start_literals(question, how[0], literals):
            return "literals"
        sure = {"lost": 0, "won": 1, "any": 1, "none": 0}[how[0]]
        return None if fraction(number) == sure else "number"
    if any(index >= len(rows) or rows[index][0] != kind for index in how[1:]):
        return "kind"
    named = [rows[index] for index in how[1:]]
    if place == count or any(one[1] <= place for one in named):
        return "place"
    mark, hand = question.marks()[place]
    mover = {"most": "they", "least": "we"}[kind]
    if (hand == mover) != (how[0] == "drop"):
        return "hand"
    names = names_of(question)
    if any(names.index(one) > place for row in named for one, _ in row[2]):
        return "literals"
    if how[0] == "join":
        # Set No, rows of No must be able to tell: of most rows a literal Yes is against then.
        bad = (mark, kind != "most"), (mark, kind == "most")
        if any(tuple(one) == wrong for row, wrong in zip(named, bad) for one in row[2]):
            return "literals"
        if not any(one == mark for row in named for one, _ in row[2]):
            return "literals"
    made = {tuple(one) for row in named for one in row[2] if one[0] != mark}
    if len({one for one, _ in made}) < len(made) or made != {tuple(one) for one in literals}:
        return "literals"
    numbers = [fraction(one[3]) for one in named]
    if how[0] == "drop":
        right = numbers[0]
    elif isinstance(hand, str):
        right = max(numbers) if kind == "most" else min(numbers)
    else:
        right = mean(hand, *numbers)
    return None if fraction(number) == right else "number"


def fault_by_words(question, paper):
    for index, row in enumerate(paper):
        why = why_not(question, paper[:index], row)
        if why is not None:
            return (index, why)
    return None


def made_paper(source, question, tries=60):
    """A paper of rows made by chance."""
    names = names_of(question)
    paper = [start_row(question, "any", []), start_row(question, "none", [])]
    for _ in range(tries):
        if source.random() < 0.3:
            lot = [(name, source.random() < 0.5) for name in names if source.random() < 0.8]
            row = start_row(question, source.choice(["lost", "won"]), lot)
        else:
            if not names:
                continue
            place = source.randrange(len(names))
            kind = source.choice(["most", "least"])
            mover = {"most": "they", "least": "we"}[kind]
            fit = [
                index for index, row in enumerate(paper)
                if row[0] == kind and row[1] > place and all(names.index(mark) <= place for mark, _ in row[2])
            ] or [0]
            one, two = source.choice(fit), source.choice(fit)
            how = ("drop", one) if hand_at(question, place) == mover else ("join", one, two)
            row = next_row(question, paper, kind, place, how)
        if row is not None:
            paper.append(row)
    return paper


def spoilt_row(source, question, row):
    """A row with one thing otherwise."""
    kind, place, literals, number, how = row
    names = names_of(question)
    what = source.randrange(8)
    if what == 0:
        kind = {"most": "least", "least": "most"}[kind]
    elif what == 1:
        place = source.randint(0, len(names) + 1)
    elif what == 2 and literals:
        at = source.randrange(len(literals))
        literals = literals[:at] + literals[at + 1:]
    elif what == 3 and literals:
        at = source.randrange(len(literals))
        literals = literals[:at] + [(literals[at][0], not literals[at][1])] + literals[at + 1:]
    elif what == 4 and names:
        more = literals + [(source.choice(names), source.random() < 0.5)]
        literals = sorted(more, key=lambda one: names.index(one[0])) if source.random() < 0.8 else more
    elif what == 5:
        number = source.choice([(0, 1), (1, 1), (1, 2), (2, 4), (2, 1), (1, 0), (number[0], number[1] + 1)])
    elif what == 6:
        how = (how[0],) + tuple(max(0, index + source.choice([-1, 1, 2, 50])) for index in how[1:])
    else:
        how = source.choice([("lost",), ("won",), ("any",), ("none",), ("drop", 0), ("join", 0, 1), ("drop",), ("join", 1), ("start",)])
    return (kind, place, literals, number, how)


def best_number(question, paper, kind, position):
    """The best number told, by the words; None if none is."""
    numbers = [fraction(row[3]) for row in paper if row[0] == kind and tells_of(question, row, position)]
    if not numbers:
        return None
    return min(numbers) if kind == "most" else max(numbers)


def told(question, paper, kind, position):
    number = best_number(question, paper, kind, position)
    if number is None:
        return Fraction(1 if kind == "most" else 0)
    return number
