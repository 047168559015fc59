"""Promise 13, and 5 of it: the shortest row from stand to stand."""

import unittest

from tests import model, samples
from tests.refusal import refused
from tumblemarks.errors import NoFloor, NoStand
from tumblemarks.floors import stand_behind
from tumblemarks.ways import way

LYING = samples.LYING
SQUARE = samples.SQUARE
HOME = ((0, 0), LYING)


def is_odd(stand):
    """Whether colour and lying together are odd; a roll changes both, so this stays."""
    cell, lying = stand
    faces = list(lying) + [5 - face for face in lying]
    wrong = sum(faces[one] > faces[other] for one in range(6) for other in range(one + 1, 6))
    return (sum(cell) + wrong) % 2


class Way(unittest.TestCase):
    def told(self, wished, floor, one, other):
        told = way(floor, one, other)
        self.assertEqual(told, wished, (floor, one, other))
        self.assertIs(type(told), type(wished))

    def test_a_stand_to_itself(self):
        for floor in samples.FLOORS:
            for stand in samples.stands(floor):
                self.told("", floor, stand, stand)

    def test_one_cell(self):
        for one in samples.stands(samples.DOT):
            for other in samples.stands(samples.DOT):
                self.told("" if one == other else None, samples.DOT, one, other)

    def test_single_rolls(self):
        self.told("n", SQUARE, HOME, ((0, 1), (1, 5, 2)))
        self.told("e", SQUARE, HOME, ((1, 0), (2, 1, 5)))
        self.told("s", SQUARE, ((1, 1), LYING), ((1, 0), (4, 0, 2)))
        self.told("w", SQUARE, ((1, 1), LYING), ((0, 1), (3, 1, 0)))

    def test_in_a_line(self):
        self.told("eee", samples.LINE, ((0, 2), LYING), ((3, 2), (3, 1, 0)))
        self.told("ww", samples.LINE, ((3, 2), LYING), ((1, 2), (5, 1, 3)))
        self.told("nnn", samples.POST, ((3, 0), LYING), ((3, 3), (4, 0, 2)))
        self.told("ss", samples.POST, ((3, 2), LYING), ((3, 0), (5, 4, 2)))
        self.told(None, samples.LINE, ((0, 2), LYING), ((3, 2), (2, 1, 5)))
        self.told(None, samples.LINE, ((0, 2), LYING), ((2, 2), LYING))

    def test_in_a_line_the_lying_hangs_on_the_cell_alone(self):
        for floor in (samples.LINE, samples.POST, samples.CORNER):
            for one in samples.stands(floor):
                for cell in floor:
                    ends = [how for how in model.lyings() if way(floor, one, (cell, how)) is not None]
                    self.assertEqual(len(ends), 1, (floor, one, cell))

    def test_around(self):
        self.told("nesw", SQUARE, HOME, ((0, 0), (1, 2, 0)))
        self.told("enws", SQUARE, HOME, ((0, 0), (2, 0, 1)))
        self.told("en", SQUARE, HOME, ((1, 1), (1, 3, 5)))
        self.told("ne", SQUARE, HOME, ((1, 1), (2, 5, 4)))

    def test_the_least_of_as_short_rows(self):
        # Both ways round the hole turn the cube alike there.
        ring = ((1, 1), LYING)
        both = [row for row in ("nnee", "eenn") if stand_behind(samples.RING, *ring, row) == ((3, 3), (0, 4, 3))]
        self.assertEqual(both, ["nnee", "eenn"])
        self.told("eenn", samples.RING, ring, ((3, 3), (0, 4, 3)))

    def test_the_first_of_all_short_rows(self):
        for floor in (SQUARE, samples.RING, samples.NINE):
            for start in ((floor[0], LYING), (floor[2], (3, 4, 5)), (floor[-1], (5, 3, 4))):
                firsts = {}
                for row in sorted(samples.rows_up_to(5), key=lambda row: (len(row), row)):
                    off, stand, _ = model.play(floor, *start, row, (0,) * 15)
                    if off is None:
                        firsts.setdefault(stand, row)
                for stand in samples.stands(floor):
                    if stand in firsts:
                        self.told(firsts[stand], floor, start, stand)
                    else:
                        row = way(floor, start, stand)
                        self.assertTrue(row is None or len(row) > 5, (floor, start, stand))

    def test_each_two_stands_by_the_model(self):
        for floor in samples.FLOORS[:-2]:
            for one in samples.stands(floor)[::5]:
                rows = model.least_rows(floor, one)
                for other in samples.stands(floor):
                    self.told(rows.get(other), floor, one, other)

    def test_nine_cells_by_the_model(self):
        for one in samples.stands(samples.NINE)[::53]:
            rows = model.least_rows(samples.NINE, one)
            for other in samples.stands(samples.NINE):
                self.told(rows.get(other), samples.NINE, one, other)

    def test_none_just_where_colours_and_lyings_disagree_on_nine_cells(self):
        for other in samples.stands(samples.NINE):
            agree = is_odd(other) == is_odd(HOME)
            self.assertIs(way(samples.NINE, HOME, other) is not None, agree, other)

    def test_none_where_colours_and_lyings_disagree(self):
        for floor in (SQUARE, samples.RING, samples.SPREAD):
            for one in samples.stands(floor)[::17]:
                for other in samples.stands(floor):
                    if is_odd(one) != is_odd(other):
                        self.told(None, floor, one, other)
        self.told(None, SQUARE, HOME, ((0, 1), LYING))
        self.told(None, SQUARE, HOME, ((0, 0), (1, 5, 2)))

    def test_cells_that_do_not_touch(self):
        for other in samples.stands(samples.SPREAD):
            if other[0] != (0, 0):
                self.told(None, samples.SPREAD, HOME, other)
        self.told(None, ((0, 0), (0, 2)), HOME, ((0, 2), (5, 4, 2)))

    def test_the_row_leads_there_and_another_one_back(self):
        for floor, cell, lying, row in samples.long_walks(40):
            there = stand_behind(floor, cell, lying, row)
            short = way(floor, (cell, lying), there)
            self.assertLessEqual(len(short), len(row))
            self.assertEqual(stand_behind(floor, cell, lying, short), there)
            back = way(floor, there, (cell, lying))
            self.assertEqual(len(back), len(short))
            self.assertEqual(stand_behind(floor, *there, back), (cell, lying))

    def test_refusals(self):
        for thing in samples.floors_wrong():
            refused(self, NoFloor, way, thing, HOME, HOME)
        for floor in samples.FLOORS:
            stand = (floor[0], LYING)
            for thing in samples.stands_wrong(floor):
                refused(self, NoStand, way, floor, thing, stand)
                refused(self, NoStand, way, floor, stand, thing)


if __name__ == "__main__":
    unittest.main()
