"""Promises 30 and 31, and 5 of them: rows that are played again and again."""

import unittest

from tests import model, samples
from tests.refusal import refused
from tumblemarks.again import exchange_far, how_often, round_of, stand_far
from tumblemarks.errors import NoCell, NoFloor, NoRow, NoStand, NoTimes, NotLet
from tumblemarks.floors import stand_behind
from tumblemarks.marks import exchange, order

LYING = samples.LYING
SQUARE = samples.SQUARE
LINE = samples.LINE
HOME = ((0, 0), LYING)
MOST = 1000000000000


def spots(floor):
    return tuple(range(6 + len(floor)))


class HowOften(unittest.TestCase):
    def told(self, wished, floor, cell, row):
        told = how_often(floor, cell, row)
        self.assertEqual(told, wished, (floor, cell, row))
        self.assertIs(type(told), type(wished), (floor, cell, row))

    def test_the_row_of_no_rolls(self):
        for floor in samples.FLOORS:
            for cell in floor:
                self.told(None, floor, cell, "")

    def test_rows_that_end_where_they_began(self):
        for row in ("nesw", "enws", "ns", "ew", "nsew", "nesw" * 15):
            self.told(None, SQUARE, (0, 0), row)
        self.told(None, LINE, (0, 2), "eeewww")
        self.told(None, samples.RING, (1, 1), "nneessww")

    def test_rows_that_would_end_there_but_lead_off(self):
        for row in ("we", "sn", "wsen", "nsnnss", "wens"):
            self.told(0, SQUARE, (0, 0), row)
        for row in ("ns", "ew", "nesw"):
            self.told(0, samples.DOT, (2, 1), row)

    def test_rows_that_go_on(self):
        for cell, many in (((0, 2), 3), ((1, 2), 2), ((2, 2), 1), ((3, 2), 0)):
            self.told(many, LINE, cell, "e")
            self.told(many, LINE, cell, "ewe" if many else "e")
            self.told(3 - many, LINE, cell, "w")
        self.told(1, LINE, (0, 2), "ee")
        self.told(1, LINE, (1, 2), "ee")
        self.told(0, LINE, (2, 2), "ee")
        self.told(1, LINE, (0, 2), "eee")
        self.told(0, LINE, (0, 2), "eeee")
        self.told(2, LINE, (0, 2), "eew")
        self.told(2, samples.NINE, (0, 0), "ne")
        self.told(1, samples.NINE, (0, 0), "nne")
        self.told(1, samples.NINE, (1, 1), "en")

    def test_0_times_where_the_row_is_not_let(self):
        for letter in "nesw":
            self.told(0, samples.DOT, (2, 1), letter)
        self.told(0, SQUARE, (0, 0), "s")
        self.told(0, SQUARE, (0, 0), "nn")

    def test_each_short_row_by_the_model(self):
        for floor in samples.FLOORS:
            for cell in floor:
                for row in samples.rows_up_to(4):
                    plays = model.how_often(floor, cell, row)
                    self.told(None if plays == 99 else plays, floor, cell, row)

    def test_a_row_is_let_as_often_as_told_and_no_more(self):
        for floor, cell, lying, row in samples.long_walks(100):
            many = how_often(floor, cell, row)
            if many is None:
                self.assertEqual(stand_behind(floor, cell, lying, row)[0], cell)
            else:
                stand_behind(floor, cell, lying, row * many)
                refused(self, NotLet, stand_behind, floor, cell, lying, row * (many + 1))

    def test_rows_beyond_sixty_are_not_refused(self):
        self.told(None, SQUARE, (0, 0), "nesw" * 40)
        self.told(1, SQUARE, (0, 0), "nesw" * 40 + "n")

    def test_refusals(self):
        for thing in samples.floors_wrong():
            refused(self, NoFloor, how_often, thing, (0, 0), "")
        for floor in samples.FLOORS:
            for thing in samples.cells_wrong(floor):
                refused(self, NoCell, how_often, floor, thing, "")
        for thing in samples.rows_wrong():
            refused(self, NoRow, how_often, SQUARE, (0, 0), thing)
        refused(self, NoRow, how_often, SQUARE, (0, 0), "sx")


class Far(unittest.TestCase):
    def told(self, behind, exchanged, floor, stand, row, times):
        asked = (floor, stand, row, times)
        self.assertEqual(stand_far(*asked), behind, asked)
        self.assertEqual(exchange_far(*asked), exchanged, asked)
        self.assertIs(type(stand_far(*asked)), tuple)
        self.assertIs(type(exchange_far(*asked)), tuple)

    def test_0_times(self):
        for floor in samples.FLOORS:
            for stand in samples.stands(floor):
                for row in ("", "n", "e", "s", "w", "ns", "we", "eeee", "nesw"):
                    self.told(stand, spots(floor), floor, stand, row, 0)

    def test_the_row_of_no_rolls(self):
        for floor in samples.FLOORS:
            for stand in samples.stands(floor):
                for times in (1, 2, 999, MOST):
                    self.told(stand, spots(floor), floor, stand, "", times)

    def test_once_is_the_row_itself(self):
        for floor, cell, lying, row in samples.long_walks(100):
            stand = stand_behind(floor, cell, lying, row)
            self.told(stand, exchange(floor, (cell, lying), row), floor, (cell, lying), row, 1)

    def test_there_and_back(self):
        there = (6, 7, 2, 3, 4, 5, 0, 1, 8)
        for times in (1, 3, 5, MOST - 1):
            self.told(HOME, there, samples.CORNER, HOME, "ns", times)
        for times in (2, 4, MOST):
            self.told(HOME, spots(samples.CORNER), samples.CORNER, HOME, "ns", times)

    def test_round_the_square(self):
        once = (8, 7, 9, 3, 4, 5, 1, 6, 0, 2)
        self.told(((0, 0), (1, 2, 0)), once, SQUARE, HOME, "nesw", 1)
        self.told(((0, 0), (2, 0, 1)), exchange(SQUARE, HOME, "neswnesw"), SQUARE, HOME, "nesw", 2)
        self.told(HOME, exchange(SQUARE, HOME, "nesw" * 3), SQUARE, HOME, "nesw", 3)
        # All comes again behind 21 plays, and of a million million plays one is left.
        self.assertEqual(MOST % 21, 1)
        self.told(HOME, spots(SQUARE), SQUARE, HOME, "nesw", 21)
        self.told(((0, 0), (1, 2, 0)), once, SQUARE, HOME, "nesw", MOST)
        self.told(HOME, spots(SQUARE), SQUARE, HOME, "nesw", MOST - 1)

    def test_rows_that_go_on(self):
        start = ((0, 2), LYING)
        self.told(((1, 2), (2, 1, 5)), exchange(LINE, start, "e"), LINE, start, "e", 1)
        self.told(((2, 2), (5, 1, 3)), exchange(LINE, start, "ee"), LINE, start, "e", 2)
        self.told(((3, 2), (3, 1, 0)), exchange(LINE, start, "eee"), LINE, start, "e", 3)
        self.told(((3, 2), (3, 1, 0)), exchange(LINE, start, "eweeweewe"), LINE, start, "ewe", 3)

    def test_once_too_often(self):
        start = ((0, 2), LYING)
        for ask in (stand_far, exchange_far):
            for times in (4, 5, 1000, MOST):
                refused(self, NotLet, ask, LINE, start, "e", times)
            for times in (1, 2, MOST):
                refused(self, NotLet, ask, LINE, start, "we", times)
                refused(self, NotLet, ask, LINE, start, "n", times)
            refused(self, NotLet, ask, LINE, start, "ee", 2)
            refused(self, NotLet, ask, samples.NINE, HOME, "ne", 3)

    def test_rows_that_go_on_as_often_as_told(self):
        for floor, cell, lying, row in samples.long_walks(150):
            many = how_often(floor, cell, row)
            if many is not None:
                for times in range(many + 1):
                    wished = model.play(floor, cell, lying, row * times, (0,) * 15)[1]
                    exchanged = model.exchange(floor, cell, lying, row * times)
                    self.told(wished, exchanged, floor, (cell, lying), row, times)
                for ask in (stand_far, exchange_far):
                    refused(self, NotLet, ask, floor, (cell, lying), row, many + 1)
                    refused(self, NotLet, ask, floor, (cell, lying), row, MOST)

    def test_plays_put_together_one_by_one(self):
        for floor, cell, lying, row in samples.round_walks(40):
            now, held = (cell, lying), spots(floor)
            for times in range(14):
                exchanged = tuple(held.index(spot) for spot in spots(floor))
                self.told(now, exchanged, floor, (cell, lying), row, times)
                _, now, held = model.play(floor, *now, row, held)

    def test_very_often(self):
        for floor, cell, lying, row in samples.round_walks(40):
            for times in (999, 12345678, 999999999989, MOST - 2, MOST - 1, MOST):
                self.told(*model.far(floor, cell, lying, row, times), floor, (cell, lying), row, times)

    def test_rows_beyond_sixty_are_not_refused(self):
        long = "nesw" * 22
        self.told(*model.far(SQUARE, *HOME, long, MOST), SQUARE, HOME, long, MOST)

    def test_no_times(self):
        for ask in (stand_far, exchange_far):
            for thing in samples.times_wrong():
                for row in ("", "nesw", "n", "s"):
                    refused(self, NoTimes, ask, SQUARE, HOME, row, thing)

    def test_refusals(self):
        for ask in (stand_far, exchange_far):
            for thing in samples.floors_wrong():
                refused(self, NoFloor, ask, thing, HOME, "", 1)
            for thing in samples.stands_wrong(SQUARE):
                refused(self, NoStand, ask, SQUARE, thing, "", 1)
            for thing in samples.rows_wrong():
                for times in (0, 1):
                    refused(self, NoRow, ask, SQUARE, HOME, thing, times)


class RoundOf(unittest.TestCase):
    def told(self, wished, floor, stand, row):
        told = round_of(floor, stand, row)
        self.assertEqual(told, wished, (floor, stand, row))
        self.assertIs(type(told), int)

    def test_the_row_of_no_rolls(self):
        for floor in samples.FLOORS:
            for stand in samples.stands(floor):
                self.told(1, floor, stand, "")

    def test_there_and_back(self):
        self.told(2, SQUARE, HOME, "ns")
        self.told(1, SQUARE, HOME, "nsns")
        self.told(2, LINE, ((0, 2), LYING), "ew")

    def test_round_the_square(self):
        self.told(21, SQUARE, HOME, "nesw")
        self.told(21, SQUARE, HOME, "neswnesw")
        self.told(7, SQUARE, HOME, "nesw" * 3)
        self.told(1, SQUARE, HOME, "nesw" * 21)

    def test_plays_put_together_one_by_one(self):
        turns = set()
        for floor, cell, lying, row in samples.round_walks(60):
            self.told(model.round_of(floor, cell, lying, row), floor, (cell, lying), row)
            turns.update(
                times for times in (1, 2, 3)
                if stand_far(floor, (cell, lying), row, times) == (cell, lying)
                and all(stand_far(floor, (cell, lying), row, less) != (cell, lying) for less in range(1, times))
            )
        self.assertEqual(turns, {1, 2, 3})

    def test_behind_it_all_is_as_it_was_and_not_ahead(self):
        for floor, cell, lying, row in samples.round_walks(30):
            stand = (cell, lying)
            many = round_of(floor, stand, row)
            back = [
                times for times in range(1, many + 1)
                if stand_far(floor, stand, row, times) == stand
                and exchange_far(floor, stand, row, times) == spots(floor)
            ]
            self.assertEqual(back, [many], (floor, stand, row))

    def test_it_is_the_turn_times_the_order(self):
        for floor, cell, lying, row in samples.round_walks(30):
            stand = (cell, lying)
            turn = [times for times in (1, 2, 3) if stand_far(floor, stand, row, times) == stand][0]
            self.told(turn * order(floor, stand, row * turn), floor, stand, row)

    def test_not_without_end(self):
        for row in ("n", "ne", "s", "we", "nesws", "neswn", "nn"):
            refused(self, NotLet, round_of, SQUARE, HOME, row)
        refused(self, NotLet, round_of, samples.DOT, ((2, 1), LYING), "ns")
        refused(self, NotLet, round_of, LINE, ((0, 2), LYING), "eee")

    def test_refusals(self):
        for thing in samples.floors_wrong():
            refused(self, NoFloor, round_of, thing, HOME, "")
        for thing in samples.stands_wrong(SQUARE):
            refused(self, NoStand, round_of, SQUARE, thing, "")
        for thing in samples.rows_wrong():
            refused(self, NoRow, round_of, SQUARE, HOME, thing)


if __name__ == "__main__":
    unittest.main()
