import inspect
import unittest

from marksinturn import errors, refusals
from tests.plain import any_objects

LISTED = (
    "BadSum(one) BadAnswer(one) NotTheirs(mark) BadTheirNames(index) BadOurs(index) BadTeam(team) BadClauses(index) BadSetting(setting)"
    " BadTeamPolicy(policy) BadTeamPaper(paper) BadLot(lot) BadOrder(order) NoTeam(question) BadVector(index) BadFamily(family)"
    " BadPick(pick) BadGoal(goal) BadPicks(index) BadSights(index) BadLosses(index) BadStep(step) BadWay(index) BadGame(game)"
    " BadMany(many) BadStates(index) BadTheirs(index) BadCircuit(circuit) BadFilling(filling) BadInputs(truths) Unfit(other)"
    " HasBox(circuit) Boxes(circuit) BadGates(index) SeesGates(box) BadSide(side) NotLaid(tag) BadRowForm(index)"
    " BadRowsText(line,sign) BadPolicyForm(policy) BadPolicyText(line,sign) BadPlayText(line,sign) BadSumForm(index)"
    " BadSumsText(line,sign)"
).split()


class RefusalsTest(unittest.TestCase):
    def test_all(self):
        made = {name for name, thing in vars(refusals).items() if inspect.isclass(thing) and thing.__module__ == refusals.__name__}
        self.assertEqual(made, {one.split("(")[0] for one in LISTED})
        self.assertEqual(len(LISTED), 43)

    def test_each(self):
        for one in LISTED:
            name, words = one[:-1].split("(")
            refusal = getattr(refusals, name)
            self.assertEqual(refusal.__bases__, (errors.MarkError,), name)
            self.assertEqual(list(inspect.signature(refusal.__init__).parameters)[1:], words.split(","))
            for thing in any_objects():
                passed = {word: [thing] for word in words.split(",")}
                for error in (refusal(**passed), refusal(*passed.values())):
                    self.assertIsInstance(error, ValueError)
                    self.assertEqual(set(vars(error)), set(passed))
                    for word, kept in passed.items():
                        self.assertIs(getattr(error, word), kept)


if __name__ == "__main__":
    unittest.main()
