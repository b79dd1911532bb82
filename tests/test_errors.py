"""The errors of the package."""

import inspect
import unittest

from bastion import errors

NAMES = [
    "NoSolution", "InvalidText", "InvalidState", "InvalidGate", "InvalidCode", "TooLarge", "SizeMismatch",
    "InvalidSize", "NotBalanced", "TooMany", "NoJoin", "InvalidRecord", "InvalidLine", "Closed", "NotAGraph",
    "InvalidPaper",
]


class ErrorsTest(unittest.TestCase):

    def test_the_base_class_is_a_value_error(self):
        self.assertEqual(errors.BastionError.__bases__, (ValueError,))

    def test_every_error_is_directly_below_the_base_class(self):
        for name in NAMES:
            self.assertEqual(getattr(errors, name).__bases__, (errors.BastionError,), name)

    def test_there_are_no_other_classes(self):
        found = [name for name, _ in inspect.getmembers(errors, inspect.isclass)]
        self.assertEqual(sorted(found), sorted(NAMES + ["BastionError"]))

    def test_every_error_is_caught_as_a_bastion_error_and_by_no_other_class(self):
        for name in NAMES:
            error = getattr(errors, name)(3)
            for other in NAMES:
                self.assertEqual(isinstance(error, getattr(errors, other)), name == other)
            with self.assertRaises(errors.BastionError):
                raise error

    def test_invalid_line_has_its_line(self):
        error = errors.InvalidLine(12)
        self.assertEqual(error.line, 12)
        self.assertIs(type(error.line), int)


if __name__ == "__main__":
    unittest.main()
