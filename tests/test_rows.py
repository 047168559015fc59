"""Promise 12: rows, where they lead off, and the stand behind them."""

import unittest

from tests import model, samples
from tests.refusal import refused
from tumblemarks.errors import NoCell, NoFloor, NoLying, NoRow, NotLet
from tumblemarks.floors import first_off, is_lying, stand_behind

LYING = samples.LYING
SQUARE = samples.SQUARE


class FirstOff(unittest.TestCase):
    def told(self, wished, floor, cell, row):
        told = first_off(floor, cell, row)
        if wished is None:
            self.assertIs(told, None, (floor, cell, row))
        else:
            self.assertIs(type(told), int, (floor, cell, row))
            self.assertEqual(told, wished, (floor, cell, row))

    def test_no_rolls(self):
        for floor in samples.FLOORS:
            for cell in floor:
                self.told(None, floor, cell, "")

    def test_one_cell_lets_no_roll(self):
        for letter in "nesw":
            self.told(0, samples.DOT, (2, 1), letter)
            self.told(0, samples.DOT, (2, 1), letter * 60)

    def test_each_way_out_of_the_square(self):
        for cell, row in (((0, 0), "ne"), ((0, 1), "se"), ((1, 0), "nw"), ((1, 1), "sw")):
            for letter in "nesw":
                self.told(None if letter in row else 0, SQUARE, cell, letter)

    def test_lines_to_the_north_and_to_the_east(self):
        self.told(3, samples.LINE, (0, 2), "eeee")
        self.told(None, samples.LINE, (0, 2), "eeewww")
        self.told(6, samples.LINE, (0, 2), "eeewwww")
        self.told(1, samples.LINE, (0, 2), "enes")
        self.told(3, samples.POST, (3, 0), "nnnn")
        self.told(None, samples.POST, (3, 0), "nnnsss")
        self.told(1, samples.POST, (3, 1), "ss")
        self.told(0, samples.POST, (3, 1), "wnnn")

    def test_the_first_of_several_places(self):
        self.told(1, SQUARE, (0, 0), "nnnnn")
        self.told(2, SQUARE, (0, 0), "eneee")
        self.told(4, SQUARE, (0, 0), "neswwsss")

    def test_off_the_floor_and_back_is_off(self):
        self.told(0, SQUARE, (0, 0), "ws")
        self.told(0, SQUARE, (0, 0), "we")
        self.told(0, SQUARE, (0, 0), "swne")
        self.told(1, samples.SPREAD, (1, 1), "nes")
        self.told(0, ((0, 0), (0, 2)), (0, 0), "nn")
        self.told(2, samples.RING, (1, 2), "nessn")

    def test_the_last_roll_leads_off(self):
        self.told(59, SQUARE, (0, 0), "ns" * 29 + "n" + "n")
        self.told(None, SQUARE, (0, 0), "ns" * 30)

    def test_each_short_row_from_each_cell(self):
        for floor in samples.FLOORS:
            for cell in floor:
                for row in samples.rows_up_to(4):
                    self.told(model.play(floor, cell, LYING, row, (0,) * 15)[0], floor, cell, row)

    def test_long_rows_that_are_let_and_then_lead_off(self):
        for floor, cell, _, row in samples.long_walks(200):
            self.told(None, floor, cell, row)
            for letter in "nesw":
                wished = model.play(floor, cell, LYING, row + letter * 4, (0,) * 15)[0]
                self.told(wished, floor, cell, row + letter * 4)

    def test_rows_beyond_sixty_are_not_refused(self):
        self.told(None, SQUARE, (0, 0), "n" + "sn" * 30)
        self.told(None, SQUARE, (0, 0), "nesw" * 45)
        self.told(180, SQUARE, (0, 0), "nesw" * 45 + "s")

    def test_refusals(self):
        for thing in samples.floors_wrong():
            refused(self, NoFloor, first_off, thing, (0, 0), "n")
        for floor in samples.FLOORS:
            for thing in samples.cells_wrong(floor):
                refused(self, NoCell, first_off, floor, thing, "")
        for thing in samples.rows_wrong():
            refused(self, NoRow, first_off, SQUARE, (0, 0), thing)

    def test_a_wrong_letter_behind_a_roll_that_leads_off(self):
        refused(self, NoRow, first_off, SQUARE, (0, 0), "sx")
        refused(self, NoRow, first_off, SQUARE, (0, 0), "ssssN")


class StandBehind(unittest.TestCase):
    def told(self, wished, floor, cell, lying, row):
        told = stand_behind(floor, cell, lying, row)
        self.assertEqual(told, wished, (floor, cell, lying, row))
        self.assertIs(type(told), tuple)
        self.assertEqual([type(part) for part in told], [tuple, tuple])
        self.assertIs(is_lying(told[1]), True)
        self.assertIn(told[0], floor)

    def test_no_rolls(self):
        for floor in samples.FLOORS:
            for cell, lying in samples.stands(floor):
                self.told((cell, lying), floor, cell, lying, "")

    def test_single_rolls(self):
        self.told(((0, 1), (1, 5, 2)), SQUARE, (0, 0), LYING, "n")
        self.told(((1, 0), (2, 1, 5)), SQUARE, (0, 0), LYING, "e")
        self.told(((1, 0), (4, 0, 2)), SQUARE, (1, 1), LYING, "s")
        self.told(((0, 1), (3, 1, 0)), SQUARE, (1, 1), LYING, "w")

    def test_round_the_square(self):
        self.told(((0, 0), (1, 2, 0)), SQUARE, (0, 0), LYING, "nesw")
        self.told(((0, 0), (2, 0, 1)), SQUARE, (0, 0), LYING, "nesw" * 2)
        self.told(((0, 0), LYING), SQUARE, (0, 0), LYING, "nesw" * 3)

    def test_there_and_back(self):
        self.told(((0, 2), LYING), samples.LINE, (0, 2), LYING, "eeewww")
        self.told(((3, 3), (4, 0, 2)), samples.POST, (3, 0), LYING, "nnn")

    def test_each_short_row_from_each_stand_of_the_square(self):
        for row in samples.rows_up_to(4):
            for cell, lying in samples.stands(SQUARE):
                off, stand, _ = model.play(SQUARE, cell, lying, row, (0,) * 10)
                if off is None:
                    self.told(stand, SQUARE, cell, lying, row)
                else:
                    refused(self, NotLet, stand_behind, SQUARE, cell, lying, row)

    def test_long_rows(self):
        for floor, cell, lying, row in samples.long_walks(300):
            self.told(model.play(floor, cell, lying, row, (0,) * 15)[1], floor, cell, lying, row)

    def test_rows_beyond_sixty_are_not_refused(self):
        self.told(((0, 0), LYING), SQUARE, (0, 0), LYING, "nesw" * 45)
        self.told(((0, 1), (1, 5, 2)), SQUARE, (0, 0), LYING, "n" + "sn" * 30)

    def test_not_let(self):
        for row in ("s", "w", "nn", "sn", "we", "neswws", "ns" * 29 + "nn"):
            refused(self, NotLet, stand_behind, SQUARE, (0, 0), LYING, row)
        for letter in "nesw":
            refused(self, NotLet, stand_behind, samples.DOT, (2, 1), LYING, letter)

    def test_refusals(self):
        for thing in samples.floors_wrong():
            refused(self, NoFloor, stand_behind, thing, (0, 0), LYING, "")
        for floor in samples.FLOORS:
            for thing in samples.cells_wrong(floor):
                refused(self, NoCell, stand_behind, floor, thing, LYING, "")
        for thing in samples.lyings_wrong():
            refused(self, NoLying, stand_behind, SQUARE, (0, 0), thing, "n")
        for thing in samples.rows_wrong():
            refused(self, NoRow, stand_behind, SQUARE, (0, 0), LYING, thing)


if __name__ == "__main__":
    unittest.main()
