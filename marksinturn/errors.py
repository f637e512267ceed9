"""The errors that functions raise; each keeps what it was made with."""


class MarkError(ValueError):
    """What all errors of the package are."""


class BadMarks(MarkError):
    """The thing at this index is no pair of a new name and a hand."""

    def __init__(self, index):
        self.index = index


class BadWishes(MarkError):
    """The thing at this index is no clause of the marks."""

    def __init__(self, index):
        self.index = index


class BadGuards(MarkError):
    """The thing at this index is no clause of the marks."""

    def __init__(self, index):
        self.index = index


class BadQuestion(MarkError):
    """What was passed as a question is none."""

    def __init__(self, question):
        self.question = question


class BadQuestionText(MarkError):
    """The text is no question: the place of its first wrong sign."""

    def __init__(self, line, sign):
        self.line = line
        self.sign = sign


class BadNames(MarkError):
    """The thing at this index is no new name, or there are too many or too few."""

    def __init__(self, index):
        self.index = index


class BadPosition(MarkError):
    """What was passed as a position is none that can be meant."""

    def __init__(self, position):
        self.position = position


class BadPlay(MarkError):
    """What was passed as a play is none."""

    def __init__(self, play):
        self.play = play


class BadHand(MarkError):
    """Neither we nor they."""

    def __init__(self, hand):
        self.hand = hand


class BadPolicy(MarkError):
    """What was passed as a policy of a hand is none."""

    def __init__(self, policy):
        self.policy = policy


class BadMark(MarkError):
    """No mark that another hand or chance sets."""

    def __init__(self, mark):
        self.mark = mark


class NoneSets(MarkError):
    """All marks are set at this position."""

    def __init__(self, position):
        self.position = position


class BadPlace(MarkError):
    """No place of the question."""

    def __init__(self, place):
        self.place = place


class BadK(MarkError):
    """There is no policy of this number."""

    def __init__(self, k):
        self.k = k


class NotOurs(MarkError):
    """The next mark at this position is none of ours."""

    def __init__(self, position):
        self.position = position


class BadRow(MarkError):
    """What was passed as a row has not the form of one."""

    def __init__(self, row):
        self.row = row


class BadPaper(MarkError):
    """The thing at this index is not right in a paper."""

    def __init__(self, index):
        self.index = index


class BadPapers(MarkError):
    """The thing at this index is no paper."""

    def __init__(self, index):
        self.index = index


class BadWord(MarkError):
    """No word of a start row."""

    def __init__(self, word):
        self.word = word


class BadLiterals(MarkError):
    """No list of literals of unlike marks of the question."""

    def __init__(self, literals):
        self.literals = literals


class BadKind(MarkError):
    """Neither most nor least."""

    def __init__(self, kind):
        self.kind = kind


class BadHow(MarkError):
    """Neither a drop nor a join."""

    def __init__(self, how):
        self.how = how


class BadIndex(MarkError):
    """No index of a row."""

    def __init__(self, index):
        self.index = index


class BadKept(MarkError):
    """The thing at this index is no index of a row."""

    def __init__(self, index):
        self.index = index


class BadNumber(MarkError):
    """No fraction from nought to one, shortest."""

    def __init__(self, number):
        self.number = number


class BadPositions(MarkError):
    """The thing at this index is no position."""

    def __init__(self, index):
        self.index = index


class BadSteps(MarkError):
    """No number of steps."""

    def __init__(self, steps):
        self.steps = steps


class BadDepth(MarkError):
    """No number of first marks."""

    def __init__(self, depth):
        self.depth = depth


class HasChance(MarkError):
    """The question has a mark that chance sets."""

    def __init__(self, question):
        self.question = question


class BadFree(MarkError):
    """The thing at this index is not right in a free paper."""

    def __init__(self, index):
        self.index = index


class SaysLittle(MarkError):
    """The row at this index says less than won or lost."""

    def __init__(self, index):
        self.index = index


class NoEnd(MarkError):
    """The last row of the free paper has literals."""

    def __init__(self, free):
        self.free = free


class BadState(MarkError):
    """What was passed as a state is none."""

    def __init__(self, state):
        self.state = state


class BadPrices(MarkError):
    """The thing at this index is no price, or there are too many or too few."""

    def __init__(self, index):
        self.index = index


class BadTree(MarkError):
    """What was passed as a tree is none."""

    def __init__(self, tree):
        self.tree = tree


class BadLimit(MarkError):
    """No number."""

    def __init__(self, limit):
        self.limit = limit


class BadPlain(MarkError):
    """The question has chance or guards."""

    def __init__(self, question):
        self.question = question


class BadOperation(MarkError):
    """No operation that can be meant."""

    def __init__(self, operation):
        self.operation = operation


class BadClause(MarkError):
    """What was passed as a clause is none."""

    def __init__(self, clause):
        self.clause = clause


class BadFew(MarkError):
    """What was passed as a few paper is none."""

    def __init__(self, few):
        self.few = few


class BadTruths(MarkError):
    """The thing at this index is no truth, or there are too many or too few."""

    def __init__(self, index):
        self.index = index


class BadSums(MarkError):
    """The thing at this index is no sum."""

    def __init__(self, index):
        self.index = index


class NotFair(MarkError):
    """The thing at this index is not fair."""

    def __init__(self, index):
        self.index = index
