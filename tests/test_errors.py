"""The refusals: who stands under whom."""

import unittest

from restrow import errors

NAMES = ("NoBases", "NoRow", "NoNumber", "NoPlace", "NoTurn", "OutOfRoom", "Lost")


class Errors(unittest.TestCase):
    def test_rest_error_is_straight_under_value_error(self):
        self.assertEqual(errors.RestError.__bases__, (ValueError,))

    def test_each_is_straight_under_rest_error(self):
        for name in NAMES:
            with self.subTest(name):
                self.assertEqual(getattr(errors, name).__bases__, (errors.RestError,))

    def test_none_is_under_another_one(self):
        for name in NAMES:
            for other in NAMES:
                under = issubclass(getattr(errors, name), getattr(errors, other))
                with self.subTest(name, other=other):
                    self.assertEqual(under, name == other)

    def test_each_has_its_own_name_and_file(self):
        for name in ("RestError",) + NAMES:
            with self.subTest(name):
                self.assertEqual(getattr(errors, name).__name__, name)
                self.assertEqual(getattr(errors, name).__module__, "restrow.errors")

    def test_each_is_caught_as_itself_rest_error_and_value_error(self):
        for name in NAMES:
            kind = getattr(errors, name)
            for wide in (kind, errors.RestError, ValueError):
                with self.subTest(name, wide=wide), self.assertRaises(wide):
                    raise kind("refused")


if __name__ == "__main__":
    unittest.main()
