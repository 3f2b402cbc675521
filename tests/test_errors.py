import unittest

from formrules import errors
from formrules.errors import BadText, FormError, NoRule, NotClear, NotWritten, TooMany

PLAIN = """BadAnswers BadBook BadCells BadCount BadDeeds BadEnding BadExpression BadForm BadGoal BadHeads BadInputs
BadKind BadKinds BadKnot BadLine BadLot BadMany BadMost BadName BadNames BadNotation BadParts BadPath BadPaths BadPlace
BadPlain BadRow BadScheme BadSheet BadSheets BadSignature BadTree BadUse BadWish BadWorth BadWriting NoPlain NoRows
NotAlike NotSame NothingDone NothingUndone OtherPlaces""".split()


class Errors(unittest.TestCase):
    def test_all_are_right_below_form_error(self):
        self.assertEqual(FormError.__bases__, (ValueError,))
        for word in PLAIN + ["BadText", "NoRule", "NotClear", "NotWritten", "TooMany"]:
            self.assertEqual(getattr(errors, word).__bases__, (FormError,), word)

    def test_plain_ones_are_made_with_a_message(self):
        for word in PLAIN + ["FormError"]:
            self.assertEqual(str(getattr(errors, word)("a message")), "a message")

    def test_told_attributes(self):
        text = BadText(3, ("the end",))
        self.assertEqual((text.at, text.wanted), (3, ("the end",)))
        text = BadText(wanted=None, at=None)
        self.assertEqual((text.at, text.wanted), (None, None))
        self.assertEqual(NoRule(("part", 0)).place, ("part", 0))
        self.assertEqual(NoRule(place=("part", 1)).place, ("part", 1))
        self.assertEqual(NotClear(spot=(1,)).spot, (1,))
        self.assertEqual(NotWritten(name="f").name, "f")
        self.assertEqual(TooMany(most=100).most, 100)

    def test_they_can_be_caught_as_value_errors(self):
        with self.assertRaises(ValueError):
            raise TooMany(1000)


if __name__ == "__main__":
    unittest.main()
