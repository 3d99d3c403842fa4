"""The interface of purse/errors.py."""

import unittest

from purse import errors

NAMES = ["NoPaper", "TooMuch", "NoName", "Twice", "NoVoter", "NoWork", "Full", "NoRow"]


class Errors(unittest.TestCase):
    def test_purse_error_stands_under_value_error(self):
        self.assertEqual(errors.PurseError.__bases__, (ValueError,))

    def test_each_stands_under_purse_error_alone(self):
        for name in NAMES:
            with self.subTest(name):
                self.assertEqual(getattr(errors, name).__bases__, (errors.PurseError,))

    def test_none_stands_under_another(self):
        for name in NAMES:
            for other in NAMES:
                if name != other:
                    with self.subTest(name=name, other=other):
                        self.assertFalse(issubclass(getattr(errors, name), getattr(errors, other)))

    def test_each_has_its_own_name(self):
        for name in NAMES + ["PurseError"]:
            with self.subTest(name):
                self.assertEqual(getattr(errors, name).__name__, name)

    def test_each_can_be_raised_with_words_and_without(self):
        for name in NAMES + ["PurseError"]:
            kind = getattr(errors, name)
            with self.subTest(name):
                with self.assertRaises(errors.PurseError):
                    raise kind("words")
                with self.assertRaises(ValueError):
                    raise kind()


if __name__ == "__main__":
    unittest.main()
