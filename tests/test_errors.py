import unittest

from rebut import errors


class Errors(unittest.TestCase):
    def test_base_classes(self):
        self.assertEqual(errors.RebutError.__bases__, (ValueError,))
        for name in ("BadFormula", "BadText", "WrongStep", "BadQuestion", "HasModel", "NotRising", "BadLine"):
            self.assertEqual(getattr(errors, name).__bases__, (errors.RebutError,), name)

    def test_attributes(self):
        self.assertEqual(errors.WrongStep(7).index, 7)
        self.assertEqual(errors.BadLine(3).line, 3)

    def test_all_are_caught_as_one(self):
        for made in (errors.BadFormula("a"), errors.BadText("a"), errors.WrongStep(1), errors.BadQuestion("a"),
                     errors.HasModel("a"), errors.NotRising("a"), errors.BadLine(1)):
            with self.assertRaises(errors.RebutError):
                raise made
