"""The error classes."""

from unittest import TestCase

from surelyplan import errors

PLAIN = (
    "BadSchema", "BadTable", "BadCell", "Unlike", "BadNumber", "BadIndex", "BadPlan", "BadMemory", "BadRows",
    "TooLarge", "NotPossible", "NothingDone", "BadWeights", "BadQuantity", "BadMachines", "BadShipping",
    "BadExpression",
)
TELLING = (
    ("BadData", "table"), ("BadQuery", "part"), ("BadNotes", "index"), ("Disagrees", "index"), ("BadText", "at"),
)


class Errors(TestCase):

    def test_plan_error(self):
        self.assertEqual((ValueError,), errors.PlanError.__bases__)

    def test_direct_subclasses(self):
        for name in PLAIN + tuple(name for name, _ in TELLING):
            self.assertEqual((errors.PlanError,), getattr(errors, name).__bases__, name)

    def test_there_are_no_others(self):
        named = sorted(kind.__name__ for kind in errors.PlanError.__subclasses__())
        self.assertEqual(sorted(PLAIN + tuple(name for name, _ in TELLING)), named)

    def test_attributes(self):
        for name, attribute in TELLING:
            for worth in (None, 0, 3, "atoms"):
                error = getattr(errors, name)(worth)
                self.assertEqual(worth, getattr(error, attribute))
                self.assertNotEqual("", str(error))

    def test_plain_errors_take_a_message(self):
        for name in PLAIN:
            self.assertEqual("why", str(getattr(errors, name)("why")))
