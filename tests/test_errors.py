"""The interface's row errors.py."""

import unittest

from turnsigns import errors

NAMES = (
    "NoTable NoHeights NoNet NoPlace NoTriangle NoRow NoNumber NoTurn NotAlike NoStep NoRows TooMany BadNote"
).split()


class Errors(unittest.TestCase):
    def test_the_base_stands_straight_under_value_error(self):
        self.assertEqual(errors.SignError.__bases__, (ValueError,))

    def test_thirteen_stand_straight_under_the_base(self):
        self.assertEqual(len(NAMES), 13)
        for name in NAMES:
            with self.subTest(name):
                self.assertEqual(getattr(errors, name).__bases__, (errors.SignError,))
                self.assertEqual(getattr(errors, name).__name__, name)

    def test_no_two_are_one(self):
        self.assertEqual(len({getattr(errors, name) for name in NAMES}), 13)

    def test_each_is_made_with_a_text(self):
        for name in NAMES + ["SignError"]:
            with self.subTest(name):
                made = getattr(errors, name)("these words")
                self.assertEqual(str(made), "these words")
                with self.assertRaises(ValueError):
                    raise made


if __name__ == "__main__":
    unittest.main()
