"""Promises 20 and 21, and 5 of them: what a row does to marks."""

import unittest

from tests import model, samples
from tests.refusal import refused
from tumblemarks.errors import NoFloor, NoMarks, NoRow, NoStand, NotLet
from tumblemarks.floors import stand_behind
from tumblemarks.marks import exchange, is_even, marks_behind, order, rounds

CORNER = samples.CORNER
SQUARE = samples.SQUARE
HOME = ((0, 0), samples.LYING)
OF_ROWS = (exchange, rounds, order, is_even)


class MarksBehind(unittest.TestCase):
    def told(self, wished, floor, stand, row, marks):
        told = marks_behind(floor, stand, row, marks)
        self.assertEqual(told, wished, (floor, stand, row, marks))
        self.assertIs(type(told), tuple)

    def test_no_rolls(self):
        for floor in samples.FLOORS:
            marks = samples.marks_plain(floor)
            for stand in samples.stands(floor):
                self.told(marks, floor, stand, "", marks)

    def test_one_roll_exchanges_the_new_lowest_face_and_the_new_cell(self):
        marks = (10, 11, 12, 13, 14, 15, 16, 17, 18)
        self.told((10, 17, 12, 13, 14, 15, 16, 11, 18), CORNER, HOME, "n", marks)
        self.told((10, 11, 18, 13, 14, 15, 16, 17, 12), CORNER, HOME, "e", marks)
        self.told((10, 11, 12, 13, 16, 15, 14, 17, 18), CORNER, ((0, 1), samples.LYING), "s", marks)
        self.told((10, 11, 12, 16, 14, 15, 13, 17, 18), CORNER, ((1, 0), samples.LYING), "w", marks)

    def test_some_rolls(self):
        self.told((16, 17, 2, 3, 4, 5, 0, 1, 18), CORNER, HOME, "ns", (0, 1, 2, 3, 4, 5, 16, 17, 18))
        self.told((16, 1, 2, 3, 4, 5, 0, 17, 18), CORNER, HOME, "nsn", (0, 1, 2, 3, 4, 5, 16, 17, 18))
        self.told((0, 1, 2, 3, 4, 5, 16, 17, 18), CORNER, HOME, "nsns", (0, 1, 2, 3, 4, 5, 16, 17, 18))

    def test_round_the_square(self):
        marks = tuple(range(10, 20))
        self.told((18, 16, 19, 13, 14, 15, 17, 11, 10, 12), SQUARE, HOME, "nesw", marks)

    def test_marks_may_be_alike_and_at_the_edges(self):
        self.told((0,) * 9, CORNER, HOME, "nse", (0,) * 9)
        self.told((999,) * 9, CORNER, HOME, "nse", (999,) * 9)
        self.told((0, 999, 0, 0, 0, 0, 0, 0, 999), CORNER, HOME, "n", (0, 0, 0, 0, 0, 0, 0, 999, 999))
        self.told((5, 5, 7, 5, 5, 5, 7, 7, 5), CORNER, HOME, "e", (5, 5, 5, 5, 5, 5, 7, 7, 7))

    def test_each_short_row_from_each_stand_of_the_square(self):
        marks = samples.marks_plain(SQUARE)
        for row in samples.rows_up_to(4):
            for cell, lying in samples.stands(SQUARE):
                off, _, behind = model.play(SQUARE, cell, lying, row, marks)
                if off is None:
                    self.told(behind, SQUARE, (cell, lying), row, marks)
                else:
                    refused(self, NotLet, marks_behind, SQUARE, (cell, lying), row, marks)

    def test_long_rows(self):
        for at, (floor, cell, lying, row) in enumerate(samples.long_walks(300)):
            for marks in (samples.marks_plain(floor), tuple(at * k % 4 for k in range(6 + len(floor)))):
                self.told(model.play(floor, cell, lying, row, marks)[2], floor, (cell, lying), row, marks)

    def test_a_row_is_its_parts_one_behind_the_other(self):
        for floor, cell, lying, row in samples.long_walks(60):
            marks = samples.marks_plain(floor)
            cut = len(row) // 3
            middle = stand_behind(floor, cell, lying, row[:cut])
            halfway = marks_behind(floor, (cell, lying), row[:cut], marks)
            self.told(marks_behind(floor, middle, row[cut:], halfway), floor, (cell, lying), row, marks)

    def test_refusals(self):
        marks = samples.marks_plain(SQUARE)
        for thing in samples.floors_wrong():
            refused(self, NoFloor, marks_behind, thing, HOME, "", marks)
        for thing in samples.stands_wrong(SQUARE):
            refused(self, NoStand, marks_behind, SQUARE, thing, "", marks)
        for thing in samples.rows_wrong():
            refused(self, NoRow, marks_behind, SQUARE, HOME, thing, marks)
        for row in ("s", "w", "nn", "sn", "we", "neswws"):
            refused(self, NotLet, marks_behind, SQUARE, HOME, row, marks)

    def test_no_marks(self):
        for floor in samples.FLOORS:
            for thing in samples.marks_wrong(floor):
                refused(self, NoMarks, marks_behind, floor, (floor[0], samples.LYING), "", thing)

    def test_marks_of_another_floor(self):
        for floor in samples.FLOORS:
            for other in samples.FLOORS:
                if len(floor) != len(other):
                    stand = (floor[0], samples.LYING)
                    refused(self, NoMarks, marks_behind, floor, stand, "", samples.marks_plain(other))


class OfRows(unittest.TestCase):
    def told(self, floor, stand, row, exchanged, turns, times, even):
        asked = (floor, stand, row)
        self.assertEqual(exchange(*asked), exchanged, asked)
        self.assertEqual(rounds(*asked), turns, asked)
        self.assertEqual(order(*asked), times, asked)
        self.assertIs(is_even(*asked), even, asked)
        self.assertIs(type(exchange(*asked)), tuple)
        self.assertIs(type(rounds(*asked)), tuple)
        self.assertEqual({type(spots) for spots in rounds(*asked)} - {tuple}, set())
        self.assertIs(type(order(*asked)), int)

    def told_by_model(self, floor, cell, lying, row):
        exchanged = model.exchange(floor, cell, lying, row)
        turns = model.rounds(exchanged)
        self.told(floor, (cell, lying), row, exchanged, turns, model.order(exchanged), model.is_even(exchanged))

    def test_no_rolls(self):
        for floor in samples.FLOORS:
            for stand in samples.stands(floor):
                self.told(floor, stand, "", tuple(range(6 + len(floor))), (), 1, True)

    def test_one_roll(self):
        self.told(CORNER, HOME, "n", (0, 7, 2, 3, 4, 5, 6, 1, 8), ((1, 7),), 2, False)
        self.told(CORNER, HOME, "e", (0, 1, 8, 3, 4, 5, 6, 7, 2), ((2, 8),), 2, False)
        self.told(CORNER, ((0, 1), (0, 1, 2)), "s", (0, 1, 2, 3, 6, 5, 4, 7, 8), ((4, 6),), 2, False)
        self.told(CORNER, ((1, 0), (0, 1, 2)), "w", (0, 1, 2, 6, 4, 5, 3, 7, 8), ((3, 6),), 2, False)

    def test_there_and_back(self):
        self.told(CORNER, HOME, "ns", (6, 7, 2, 3, 4, 5, 0, 1, 8), ((0, 6), (1, 7)), 2, True)
        self.told(CORNER, HOME, "nsn", (6, 1, 2, 3, 4, 5, 0, 7, 8), ((0, 6),), 2, False)
        self.told(CORNER, HOME, "nsns", tuple(range(9)), (), 1, True)

    def test_round_the_square(self):
        exchanged = (8, 7, 9, 3, 4, 5, 1, 6, 0, 2)
        self.told(SQUARE, HOME, "nesw", exchanged, ((0, 8), (1, 7, 6), (2, 9)), 6, True)

    def test_each_short_row_from_each_stand_of_the_square(self):
        for row in samples.rows_up_to(4):
            for cell, lying in samples.stands(SQUARE):
                if model.play(SQUARE, cell, lying, row, (0,) * 10)[0] is None:
                    self.told_by_model(SQUARE, cell, lying, row)
                else:
                    for ask in OF_ROWS:
                        refused(self, NotLet, ask, SQUARE, (cell, lying), row)

    def test_long_rows(self):
        for floor, cell, lying, row in samples.long_walks(300):
            self.told_by_model(floor, cell, lying, row)

    def test_rows_beyond_sixty_are_not_refused(self):
        self.told_by_model(SQUARE, (0, 0), samples.LYING, "nesw" * 16)
        self.told_by_model(SQUARE, (0, 0), samples.LYING, "n" + "sn" * 90)

    def test_even_just_where_the_rolls_are(self):
        for floor, cell, lying, row in samples.long_walks(60):
            for many in range(len(row) + 1):
                self.assertIs(is_even(floor, (cell, lying), row[:many]), many % 2 == 0)

    def test_done_as_often_as_told_all_is_as_it_was_and_not_ahead(self):
        for floor, cell, lying, row in samples.long_walks(60):
            exchanged = exchange(floor, (cell, lying), row)
            now, times = exchanged, 1
            while now != tuple(range(len(exchanged))):
                now, times = tuple(exchanged[spot] for spot in now), times + 1
            self.assertEqual(order(floor, (cell, lying), row), times)

    def test_one_exchange_whatever_the_marks_are(self):
        for floor, cell, lying, row in samples.long_walks(100):
            exchanged = exchange(floor, (cell, lying), row)
            many = 6 + len(floor)
            unlike = (samples.marks_plain(floor), tuple(range(many))[::-1])
            alike = ((7,) * many, (0, 999) * 3 + (1,) * (many - 6))
            for marks in unlike + alike:
                behind = marks_behind(floor, (cell, lying), row, marks)
                self.assertEqual([behind[spot] for spot in exchanged], list(marks))

    def test_refusals(self):
        for ask in OF_ROWS:
            for thing in samples.floors_wrong():
                refused(self, NoFloor, ask, thing, HOME, "")
            for floor in (SQUARE, samples.RING):
                for thing in samples.stands_wrong(floor):
                    refused(self, NoStand, ask, floor, thing, "")
            for thing in samples.rows_wrong():
                refused(self, NoRow, ask, SQUARE, HOME, thing)
            for row in ("s", "w", "nn", "sn", "we", "neswws", "ns" * 29 + "nn"):
                refused(self, NotLet, ask, SQUARE, HOME, row)
            for letter in "nesw":
                refused(self, NotLet, ask, samples.DOT, ((2, 1), samples.LYING), letter)


if __name__ == "__main__":
    unittest.main()
