"""Promise 11: lyings and single rolls."""

import itertools
import unittest

from tests import model, samples
from tests.refusal import refused
from tumblemarks.errors import NoLying, NoRoll
from tumblemarks.floors import is_lying, lying_behind

ALL = (
    (0, 1, 2), (0, 2, 4), (0, 3, 1), (0, 4, 3), (1, 0, 3), (1, 2, 0), (1, 3, 5), (1, 5, 2),
    (2, 0, 1), (2, 1, 5), (2, 4, 0), (2, 5, 4), (3, 0, 4), (3, 1, 0), (3, 4, 5), (3, 5, 1),
    (4, 0, 2), (4, 2, 5), (4, 3, 0), (4, 5, 3), (5, 1, 3), (5, 2, 1), (5, 3, 4), (5, 4, 2),
)


class Lyings(unittest.TestCase):
    def test_the_24_that_rolls_make(self):
        self.assertEqual(tuple(model.lyings()), ALL)
        for lying in ALL:
            self.assertIs(is_lying(lying), True, lying)

    def test_each_triple_of_numbers(self):
        for triple in itertools.product(range(-2, 8), repeat=3):
            self.assertIs(is_lying(triple), triple in ALL, triple)

    def test_things_that_are_none(self):
        for thing in samples.lyings_wrong():
            self.assertIs(is_lying(thing), False, thing)

    def test_lists_and_truths_in_the_place_of_each(self):
        for lying in ALL:
            self.assertIs(is_lying(list(lying)), False, lying)
            for at in range(3):
                if lying[at] < 2:
                    thing = lying[:at] + (bool(lying[at]),) + lying[at + 1:]
                    self.assertIs(is_lying(thing), False, thing)
            self.assertIs(is_lying(lying), True, lying)


class Rolls(unittest.TestCase):
    def test_the_letters_from_the_first_lying(self):
        self.assertEqual(lying_behind((0, 1, 2), "n"), (1, 5, 2))
        self.assertEqual(lying_behind((0, 1, 2), "s"), (4, 0, 2))
        self.assertEqual(lying_behind((0, 1, 2), "e"), (2, 1, 5))
        self.assertEqual(lying_behind((0, 1, 2), "w"), (3, 1, 0))

    def test_each_letter_from_each_lying_by_the_words_of_the_document(self):
        for low, north, east in ALL:
            self.assertEqual(lying_behind((low, north, east), "n"), (north, 5 - low, east))
            self.assertEqual(lying_behind((low, north, east), "s"), (5 - north, low, east))
            self.assertEqual(lying_behind((low, north, east), "e"), (east, north, 5 - low))
            self.assertEqual(lying_behind((low, north, east), "w"), (5 - east, north, low))

    def test_each_letter_from_each_lying_by_the_sides_of_the_cube(self):
        for lying in ALL:
            for letter in "nesw":
                told = lying_behind(lying, letter)
                self.assertEqual(told, model.lying(model.roll(model.sides(lying), letter)))
                self.assertIsInstance(told, tuple)
                self.assertIs(is_lying(told), True)

    def test_back_and_four_times_round(self):
        for lying in ALL:
            for there, back in ("ns", "sn", "ew", "we"):
                self.assertEqual(lying_behind(lying_behind(lying, there), back), lying)
                now = lying
                for _ in range(4):
                    now = lying_behind(now, there)
                self.assertEqual(now, lying)

    def test_no_lying(self):
        for thing in samples.lyings_wrong():
            refused(self, NoLying, lying_behind, thing, "n")

    def test_no_roll(self):
        for thing in samples.letters_wrong():
            refused(self, NoRoll, lying_behind, (0, 1, 2), thing)

    def test_no_lying_is_told_ahead_of_no_roll(self):
        for thing in (None, (0, 2, 1), [0, 1, 2], (0, True, 2)):
            for letter in samples.letters_wrong():
                refused(self, NoLying, lying_behind, thing, letter)


if __name__ == "__main__":
    unittest.main()
