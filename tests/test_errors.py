"""The interface of lateboxes/errors.py."""

import unittest

from lateboxes import errors


class Errors(unittest.TestCase):
    def test_each_refusal_is_a_late_error(self):
        self.assertTrue(issubclass(errors.LateError, ValueError))
        for name in ("BadProgram", "BadMill", "BadCells", "BadFuel", "BadPiece", "TooMany",
                     "BadText"):
            kind = getattr(errors, name)
            self.assertEqual(kind.__bases__, (errors.LateError,))
            self.assertEqual(kind.__module__, "lateboxes.errors")

    def test_values_are_set_when_an_object_is_created(self):
        self.assertEqual(errors.BadProgram(7).row, 7)
        self.assertEqual(errors.BadText(3).line, 3)


if __name__ == "__main__":
    unittest.main()
