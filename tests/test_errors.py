"""The interface of rootfast/errors.py, and [0.2] where it speaks of errors."""

import unittest

from rootfast import errors

NAMES = ("BadNumber", "BadText", "NoPlace", "NoZero", "NotUpright", "Endless", "BadLine")


class Errors(unittest.TestCase):
    def test_the_base_is_directly_below_value_error(self):
        self.assertEqual(errors.RootfastError.__bases__, (ValueError,))

    def test_all_others_are_directly_below_the_base(self):
        for name in NAMES:
            self.assertEqual(getattr(errors, name).__bases__, (errors.RootfastError,), name)

    def test_bad_line_has_its_line(self):
        error = errors.BadLine(7)
        self.assertEqual(error.line, 7)
        self.assertIs(type(error.line), int)
        with self.assertRaises(errors.RootfastError) as caught:
            raise errors.BadLine(12)
        self.assertEqual(caught.exception.line, 12)
        self.assertEqual(errors.BadLine(line=3).line, 3)


if __name__ == "__main__":
    unittest.main()
