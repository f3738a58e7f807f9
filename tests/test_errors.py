"""Tests of the refusals: the interface's section twosquares/errors.py."""

import unittest

from twosquares import errors

KINDS = [errors.NoPoint, errors.NoNumber, errors.NoQuotient]


class Errors(unittest.TestCase):

    def test_any_refusal_is_a_value_error(self):
        self.assertEqual(errors.PointError.__bases__, (ValueError,))

    def test_each_kind_stands_right_under_point_error(self):
        for kind in KINDS:
            self.assertEqual(kind.__bases__, (errors.PointError,))

    def test_no_kind_is_the_base_of_another_one(self):
        for kind in KINDS:
            for other in KINDS:
                self.assertEqual(issubclass(kind, other), kind is other)

    def test_each_is_defined_in_its_file_under_its_name(self):
        for name in ["PointError", "NoPoint", "NoNumber", "NoQuotient"]:
            kind = getattr(errors, name)
            self.assertEqual((kind.__module__, kind.__name__), ("twosquares.errors", name))

    def test_each_is_caught_as_point_error_and_as_value_error(self):
        for kind in KINDS:
            for caught in [kind, errors.PointError, ValueError]:
                with self.assertRaises(caught):
                    raise kind("refused")


if __name__ == "__main__":
    unittest.main()
