"""More errors that functions raise; each keeps what it was made with."""

from marksinturn.errors import MarkError


class BadSum(MarkError):
    """What was passed as a sum is none."""

    def __init__(self, one):
        self.one = one


class BadAnswer(MarkError):
    """What was passed as an answer is none."""

    def __init__(self, one):
        self.one = one


class NotTheirs(MarkError):
    """No mark of theirs."""

    def __init__(self, mark):
        self.mark = mark


class BadTheirNames(MarkError):
    """The thing at this index is no new name."""

    def __init__(self, index):
        self.index = index


class BadOurs(MarkError):
    """The thing at this index is no pair of a new name and of names of theirs."""

    def __init__(self, index):
        self.index = index


class BadTeam(MarkError):
    """What was passed as a team is none."""

    def __init__(self, team):
        self.team = team


class BadClauses(MarkError):
    """The thing at this index is no clause of the team's marks."""

    def __init__(self, index):
        self.index = index


class BadSetting(MarkError):
    """What was passed as a setting is none."""

    def __init__(self, setting):
        self.setting = setting


class BadTeamPolicy(MarkError):
    """What was passed as a team policy is none."""

    def __init__(self, policy):
        self.policy = policy


class BadTeamPaper(MarkError):
    """What was passed as a team paper has not even the kinds of one."""

    def __init__(self, paper):
        self.paper = paper


class BadLot(MarkError):
    """What was passed as a lot is none."""

    def __init__(self, lot):
        self.lot = lot


class BadOrder(MarkError):
    """No list of all that is to be ordered, each once."""

    def __init__(self, order):
        self.order = order


class NoTeam(MarkError):
    """The question has chance or guards, so it is no team."""

    def __init__(self, question):
        self.question = question


class BadVector(MarkError):
    """The thing at this index is no number up to how many others there are, or there are too many or too few."""

    def __init__(self, index):
        self.index = index


class BadFamily(MarkError):
    """No family of things that can be picked."""

    def __init__(self, family):
        self.family = family


class BadPick(MarkError):
    """What was passed as a pick of a family's things is none."""

    def __init__(self, pick):
        self.pick = pick


class BadGoal(MarkError):
    """What was passed as a goal is no number."""

    def __init__(self, goal):
        self.goal = goal


class BadPicks(MarkError):
    """The thing at this index is no pick."""

    def __init__(self, index):
        self.index = index


class BadSights(MarkError):
    """The thing at this index is no sight, or not above the one ahead."""

    def __init__(self, index):
        self.index = index


class BadLosses(MarkError):
    """The thing at this index is not right in a loss paper."""

    def __init__(self, index):
        self.index = index


class BadStep(MarkError):
    """What was passed as a step is none that can be done."""

    def __init__(self, step):
        self.step = step


class BadWay(MarkError):
    """The step at this index cannot be done."""

    def __init__(self, index):
        self.index = index


class BadGame(MarkError):
    """What was passed as a game is none."""

    def __init__(self, game):
        self.game = game


class BadMany(MarkError):
    """No number."""

    def __init__(self, many):
        self.many = many


class BadStates(MarkError):
    """The thing at this index is no new state."""

    def __init__(self, index):
        self.index = index


class BadTheirs(MarkError):
    """The thing at this index is no list of truths of their marks."""

    def __init__(self, index):
        self.index = index


class BadCircuit(MarkError):
    """What was passed as a circuit is none."""

    def __init__(self, circuit):
        self.circuit = circuit


class BadFilling(MarkError):
    """What was passed as a filling of a circuit's boxes is none."""

    def __init__(self, filling):
        self.filling = filling


class BadInputs(MarkError):
    """No list of a truth for each input."""

    def __init__(self, truths):
        self.truths = truths


class Unfit(MarkError):
    """The other circuit has boxes, or other numbers of inputs or outs."""

    def __init__(self, other):
        self.other = other


class HasBox(MarkError):
    """The circuit has a box."""

    def __init__(self, circuit):
        self.circuit = circuit


class Boxes(MarkError):
    """The circuit has no box, or several."""

    def __init__(self, circuit):
        self.circuit = circuit


class BadGates(MarkError):
    """The thing at this index is no new name of a gate."""

    def __init__(self, index):
        self.index = index


class SeesGates(MarkError):
    """The box of this name sees gates."""

    def __init__(self, box):
        self.box = box


class BadSide(MarkError):
    """Neither wish nor guard."""

    def __init__(self, side):
        self.side = side


class NotLaid(MarkError):
    """No clause lies there with this tag."""

    def __init__(self, tag):
        self.tag = tag


class BadRowForm(MarkError):
    """The thing at this index has not the form of a row."""

    def __init__(self, index):
        self.index = index


class BadRowsText(MarkError):
    """The text is no list of rows: the place of its first wrong sign."""

    def __init__(self, line, sign):
        self.line = line
        self.sign = sign


class BadPolicyForm(MarkError):
    """What was passed as a policy has not the form of one."""

    def __init__(self, policy):
        self.policy = policy


class BadPolicyText(MarkError):
    """The text is no policy: the place of its first wrong sign."""

    def __init__(self, line, sign):
        self.line = line
        self.sign = sign


class BadPlayText(MarkError):
    """The text is no play: the place of its first wrong sign."""

    def __init__(self, line, sign):
        self.line = line
        self.sign = sign


class BadSumForm(MarkError):
    """The thing at this index is no sum."""

    def __init__(self, index):
        self.index = index


class BadSumsText(MarkError):
    """The text is no list of sums: the place of its first wrong sign."""

    def __init__(self, line, sign):
        self.line = line
        self.sign = sign
