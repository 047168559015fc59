"""The interface's errors."""

import unittest

from tumblemarks import errors

NAMES = (
    "NoFloor", "NoCell", "NoLying", "NoRoll", "NoRow", "NotLet", "NoStand", "NoMarks", "NoTimes", "NoSpot",
    "NoLooks", "NoCells", "NoPair", "NoTurns", "NoWord", "NoMark", "NoDeed", "NoText", "NoLine",
)


class Errors(unittest.TestCase):
    def test_the_one_above_all_stands_under_value_error(self):
        self.assertEqual(errors.TumbleError.__bases__, (ValueError,))
        self.assertEqual(errors.TumbleError.__module__, "tumblemarks.errors")

    def test_each_stands_straight_under_it(self):
        for name in NAMES:
            with self.subTest(name):
                self.assertEqual(getattr(errors, name).__bases__, (errors.TumbleError,))
                self.assertEqual(getattr(errors, name).__name__, name)
                self.assertEqual(getattr(errors, name).__module__, "tumblemarks.errors")

    def test_each_is_one_of_its_own(self):
        self.assertEqual(len({getattr(errors, name) for name in NAMES}), len(NAMES))

    def test_each_is_made_without_anything(self):
        for name in NAMES + ("TumbleError",):
            with self.subTest(name):
                with self.assertRaises(getattr(errors, name)) as held:
                    raise getattr(errors, name)()
                self.assertIsInstance(held.exception, errors.TumbleError)
                self.assertIsInstance(held.exception, ValueError)


if __name__ == "__main__":
    unittest.main()
