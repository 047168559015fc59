"""Promise 10: floors."""

import itertools
import unittest

from tests import samples
from tumblemarks.floors import is_floor

CELLS = [(column, line) for column in range(4) for line in range(4)]


class Floors(unittest.TestCase):
    def test_one_cell_each(self):
        for cell in CELLS:
            self.assertIs(is_floor((cell,)), True, cell)

    def test_cells_beyond_the_lines(self):
        for column in range(-2, 7):
            for line in range(-2, 7):
                within = 0 <= column <= 3 and 0 <= line <= 3
                self.assertIs(is_floor(((column, line),)), within, (column, line))

    def test_each_two_cells(self):
        for one in CELLS:
            for other in CELLS:
                self.assertIs(is_floor((one, other)), one < other, (one, other))

    def test_each_way_to_put_three_cells(self):
        cells = ((0, 3), (1, 0), (1, 1))
        for row in itertools.product(cells, repeat=3):
            self.assertIs(is_floor(row), row == cells, row)

    def test_how_many_cells(self):
        for many in range(0, 17):
            for floor in (tuple(CELLS[:many]), tuple(CELLS[16 - many:])):
                self.assertIs(is_floor(floor), 1 <= many <= 9, floor)

    def test_cells_need_not_touch(self):
        self.assertIs(is_floor(((0, 0), (0, 3), (3, 0), (3, 3))), True)
        self.assertIs(is_floor(((0, 0), (0, 2), (1, 1), (1, 3), (2, 0), (2, 2), (3, 1), (3, 3))), True)

    def test_the_samples_are_floors(self):
        for floor in samples.FLOORS:
            self.assertIs(is_floor(floor), True, floor)

    def test_one_wrong_cell_anywhere(self):
        wrong = ((4, 0), (0, 4), (-1, 0), (True, 0), (0, False), [0, 0], (0,), (0, 0, 0), None, 0, "00", ())
        for at in range(9):
            for cell in wrong:
                thing = samples.NINE[:at] + (cell,) + samples.NINE[at + 1:]
                self.assertIs(is_floor(thing), False, thing)

    def test_two_neighbours_the_wrong_way_about_or_alike(self):
        for at in range(8):
            for ahead, behind in ((at + 1, at), (at, at), (at + 1, at + 1)):
                pair = (samples.NINE[ahead], samples.NINE[behind])
                thing = samples.NINE[:at] + pair + samples.NINE[at + 2:]
                self.assertIs(is_floor(thing), False, thing)

    def test_things_that_are_none(self):
        for thing in samples.floors_wrong():
            self.assertIs(is_floor(thing), False, thing)

    def test_a_truth_is_no_number_whatever_was_asked_ahead(self):
        self.assertIs(is_floor(((0, 0), (0, 1), (1, 0))), True)
        self.assertIs(is_floor(((0, 0), (0, True), (1, 0))), False)
        self.assertIs(is_floor(((False, False), (False, True), (True, False))), False)
        self.assertIs(is_floor(((0, 0), (0, 1), (1, 0))), True)


if __name__ == "__main__":
    unittest.main()
