"""The interface's section on barrierrow/errors.py."""

import unittest

from barrierrow import errors

KINDS = ["NoHall", "NoGate", "NoRow", "Stranger", "NoWalker", "NoRest"]


class Errors(unittest.TestCase):
    def test_hall_error_is_a_value_error(self):
        self.assertEqual(errors.HallError.__bases__, (ValueError,))

    def test_each_kind_stands_straight_under_hall_error(self):
        for name in KINDS:
            with self.subTest(name=name):
                self.assertEqual(getattr(errors, name).__bases__, (errors.HallError,))

    def test_no_kind_is_of_another_kind(self):
        for one in KINDS:
            for other in KINDS:
                with self.subTest(one=one, other=other):
                    self.assertEqual(issubclass(getattr(errors, one), getattr(errors, other)), one == other)

    def test_each_is_defined_in_its_file(self):
        for name in ["HallError"] + KINDS:
            with self.subTest(name=name):
                kind = getattr(errors, name)
                self.assertEqual((kind.__module__, kind.__name__), ("barrierrow.errors", name))

    def test_each_can_be_raised_with_and_without_words(self):
        for name in ["HallError"] + KINDS:
            with self.subTest(name=name):
                kind = getattr(errors, name)
                with self.assertRaises(kind):
                    raise kind
                with self.assertRaisesRegex(kind, "why"):
                    raise kind("why")


if __name__ == "__main__":
    unittest.main()
