"""Steps that make a question smaller, on the codes of its clauses.

A step is found by what it asks for, and done by what it says of clauses;
marks, hands and their order stay.
"""

from marksinturn.freejudging import dropped_place
from marksinturn.literals import clauses_of, truth_bit
from marksinturn.questions import Question

KINDS = ("wish", "guard")


class Clauses:
    """The wishes and the guards of a question behind some steps, as codes."""

    def __init__(self, question, wishes, guards):
        self.question = question
        self.wish_codes = wishes
        self.guard_codes = guards
        self.in_wishes = all_literals(wishes)
        self.in_guards = all_literals(guards)

    def of_kind(self, kind):
        """The codes of a kind's clauses."""
        return self.wish_codes if kind == "wish" else self.guard_codes

    def with_kind(self, kind, codes):
        """The same with other clauses of a kind."""
        if kind == "wish":
            return Clauses(self.question, codes, self.guard_codes)
        return Clauses(self.question, self.wish_codes, codes)

    def as_question(self):
        """The question with these clauses."""
        question = self.question
        wishes = clauses_of(question.names, self.wish_codes)
        return Question(question.marks(), wishes, clauses_of(question.names, self.guard_codes))

    def free_of_ours(self):
        """The places of our marks that stand in no guard."""
        hands = self.question.hands
        return [place for place, hand in enumerate(hands) if hand == "we" and not has_mark(self.in_guards, place)]


def clauses_of_question(question):
    """The clauses of a question ahead of all steps."""
    return Clauses(question, list(question.wish_codes), list(question.guard_codes))


def all_literals(codes):
    """The code of all literals that stand in some codes."""
    found = 0
    for code in codes:
        found |= code
    return found


def has_mark(code, place):
    """Whether a code has a literal of the mark at a place."""
    return code >> (2 * place) & 3 > 0


def turned(code):
    """A code's literals with their other truths."""
    lower = ((1 << (2 * code.bit_length())) - 1) // 3
    return (code & lower) << 1 | code >> 1 & lower


def ahead_of(code, place):
    """A code's literals of the marks ahead of a place."""
    return code & ((1 << (2 * place)) - 1)


def truth_in(code, place):
    """The truth that a code's literal of the mark at a place has."""
    return code & truth_bit(place, True) > 0


def without(codes, index):
    """The codes but the one at an index."""
    return codes[:index] + codes[index + 1:]


def steps_over(clauses):
    """The step by which a question is over, if it can be done."""
    told = told_for_certain(clauses)
    if told is None or told == (clauses.wish_codes, clauses.guard_codes):
        return []
    return [("over",)]


def told_for_certain(clauses):
    """The wishes and the guards of a question that is won, or lost, at the beginning; None if that is not certain."""
    if not clauses.wish_codes or 0 in clauses.guard_codes:
        return [], []
    if 0 in clauses.wish_codes and not clauses.guard_codes:
        return [0], []
    return None


def steps_twice(clauses):
    """The steps by which clauses go that hold where others do."""
    found = []
    for kind in KINDS:
        codes = clauses.of_kind(kind)
        for index, code in enumerate(codes):
            ahead = [other for other in codes[:index] if not other & ~code]
            behind = [other for other in codes[index + 1:] if not other & ~code and other != code]
            if ahead or behind:
                found.append(("twice", kind, index))
    return found


def single_truth(clauses, place):
    """The truth of the first wish that is a literal of the mark at a place alone; None without one."""
    for code in clauses.wish_codes:
        if code in (truth_bit(place, False), truth_bit(place, True)):
            return truth_in(code, place)
    return None


def steps_single(clauses):
    """The steps that set marks of ours which a wish asks for alone."""
    names = clauses.question.names
    return [("single", names[place]) for place in clauses.free_of_ours() if single_truth(clauses, place) is not None]


def pure_truth(clauses, place):
    """The truth to which a pure mark is set; None if it is not pure."""
    hand = clauses.question.hands[place]
    in_wishes = clauses.in_wishes >> (2 * place) & 3
    in_guards = clauses.in_guards >> (2 * place) & 3
    # Guards want it the other way.
    wanted = in_wishes | turned(in_guards)
    if wanted not in (1, 2) or not isinstance(hand, str):
        return None
    return (wanted == 2) == (hand == "we")


def steps_pure(clauses):
    """The steps that set marks which just one truth is asked of."""
    names = clauses.question.names
    return [("pure", name) for place, name in enumerate(names) if pure_truth(clauses, place) is not None]


def is_last_one(clauses, kind, code):
    """Whether the last mark of a clause is set by who wants it against, and stands in no clause of the other kind."""
    place = dropped_place(code)
    if place is None:
        return False
    if kind == "wish":
        return clauses.question.hands[place] == "they" and not has_mark(clauses.in_guards, place)
    return clauses.question.hands[place] == "we" and not has_mark(clauses.in_wishes, place)


def steps_last(clauses):
    """The steps by which the last literals of clauses go."""
    found = []
    for kind in KINDS:
        codes = clauses.of_kind(kind)
        found.extend([("last", kind, index) for index, code in enumerate(codes) if is_last_one(clauses, kind, code)])
    return found


def joined_wishes(clauses, place):
    """The wishes when those that have a mark are joined; None if it is not the last one of each, or more would come."""
    having = [code for code in clauses.wish_codes if has_mark(code, place)]
    if not having or any([dropped_place(code) != place for code in having]):
        return None
    found = [code for code in clauses.wish_codes if not has_mark(code, place)]
    most = len(clauses.wish_codes)
    for yes in [code for code in having if truth_in(code, place)]:
        for no in [code for code in having if not truth_in(code, place)]:
            code = ahead_of(yes | no, place)
            if not code & turned(code) and code not in found:
                found.append(code)
    return found if len(found) <= most else None


def steps_joined(clauses):
    """The steps by which the wishes of a mark of ours are joined without it."""
    names = clauses.question.names
    return [("joined", names[place]) for place in clauses.free_of_ours() if joined_wishes(clauses, place) is not None]


def is_blocked(clauses, index, place):
    """Whether each wish with the other truth of a wish's mark holds where what is ahead of it in this one does not."""
    code = clauses.wish_codes[index]
    other_truth = truth_bit(place, not truth_in(code, place))
    holding = turned(ahead_of(code, place))
    return all([other & holding for other in clauses.wish_codes if other & other_truth])


def steps_blocked(clauses):
    """The steps by which wishes go that a mark of ours is free for."""
    names = clauses.question.names
    free = clauses.free_of_ours()
    found = []
    for index, code in enumerate(clauses.wish_codes):
        places = [place for place in free if has_mark(code, place) and is_blocked(clauses, index, place)]
        found.extend([("blocked", index, names[place]) for place in places])
    return found


def all_steps(clauses):
    """All steps that can be done, in their order."""
    found = steps_over(clauses) + steps_twice(clauses) + steps_single(clauses) + steps_pure(clauses)
    return found + steps_last(clauses) + steps_joined(clauses) + steps_blocked(clauses)


def set_away(clauses, place, truth):
    """The clauses where a mark is set: those in which it holds go, its other literal goes from all others."""
    bit = truth_bit(place, truth)
    other = ~truth_bit(place, not truth)
    wishes = [code & other for code in clauses.wish_codes if not code & bit]
    guards = [code & other for code in clauses.guard_codes if not code & bit]
    return Clauses(clauses.question, wishes, guards)


def done(clauses, step):
    """The clauses behind a step that can be done."""
    word = step[0]
    if word == "over":
        wishes, guards = told_for_certain(clauses)
        return Clauses(clauses.question, wishes, guards)
    if word == "twice":
        return clauses.with_kind(step[1], without(clauses.of_kind(step[1]), step[2]))
    if word == "last":
        codes = clauses.of_kind(step[1])
        code = codes[step[2]]
        shorter = ahead_of(code, dropped_place(code))
        return clauses.with_kind(step[1], codes[:step[2]] + [shorter] + codes[step[2] + 1:])
    if word == "blocked":
        return clauses.with_kind("wish", without(clauses.wish_codes, step[1]))
    place = clauses.question.places[step[1]]
    if word == "joined":
        return clauses.with_kind("wish", joined_wishes(clauses, place))
    truth = single_truth(clauses, place) if word == "single" else pure_truth(clauses, place)
    return set_away(clauses, place, truth)
