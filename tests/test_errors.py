"""Tests of spotsums/errors.py."""

import unittest

from spotsums import errors

KINDS = ("NoWeb", "Ringed", "NoRow", "NoMove", "TooMany")


class ErrorsTest(unittest.TestCase):
    def test_game_error_is_a_value_error(self):
        self.assertEqual(errors.GameError.__bases__, (ValueError,))

    def test_each_kind_is_right_under_game_error(self):
        for name in KINDS:
            with self.subTest(name):
                self.assertEqual(getattr(errors, name).__bases__, (errors.GameError,))

    def test_no_kind_is_under_another_one(self):
        for name in KINDS:
            for other in KINDS:
                with self.subTest(name, other=other):
                    under = issubclass(getattr(errors, name), getattr(errors, other))
                    self.assertEqual(under, name == other)

    def test_all_are_defined_under_their_names_in_this_file(self):
        for name in KINDS + ("GameError",):
            with self.subTest(name):
                self.assertEqual(getattr(errors, name).__name__, name)
                self.assertEqual(getattr(errors, name).__module__, "spotsums.errors")

    def test_each_is_caught_as_any_refusal(self):
        for name in KINDS + ("GameError",):
            for caught in (errors.GameError, ValueError):
                with self.subTest(name, caught=caught):
                    with self.assertRaises(caught):
                        raise getattr(errors, name)("refused")


if __name__ == "__main__":
    unittest.main()
