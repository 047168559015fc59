"""Promise 51, and 5 of it: the spots whose marks ever stand at a watched cell."""

import itertools
import unittest

from tests import model, samples
from tests.refusal import refused
from tumblemarks.errors import NoCells, NoFloor, NoRow, NoSpot, NoStand, NotLet
from tumblemarks.looks import seen_first, seen_spots
from tumblemarks.marks import exchange

LYING = samples.LYING
CORNER = samples.CORNER
SQUARE = samples.SQUARE
HOME = ((0, 0), LYING)


def some_cells(floor):
    """None, all, each one alone, and some more."""
    return [(), floor, floor[::2], floor[1:]] + [(cell,) for cell in floor]


class Seen(unittest.TestCase):
    def told(self, wished, floor, stand, row, cells):
        """Wished is a dict: of each spot whose mark is seen the least number of rolls."""
        asked = (floor, stand, row, cells)
        spots = seen_spots(*asked)
        self.assertEqual(spots, tuple(sorted(wished)), asked)
        self.assertIs(type(spots), tuple)
        for spot in range(6 + len(floor)):
            rolls = seen_first(*asked, spot)
            self.assertEqual(rolls, wished.get(spot), (asked, spot))
            self.assertIs(type(rolls), int if spot in wished else type(None))

    def test_the_row_of_no_rolls(self):
        for floor in samples.FLOORS:
            for cells in some_cells(floor):
                there = {6 + floor.index(cell): 0 for cell in cells}
                self.told(there, floor, (floor[-1], LYING), "", cells)

    def test_no_cells(self):
        for row in ("", "ns", "nsew", "nsewns"):
            self.told({}, CORNER, HOME, row, ())

    def test_there_and_back(self):
        # The mark of face 1 goes to the north cell, that of 0 to the one below the cube, that of 2 to the east one.
        self.told({7: 0, 1: 1}, CORNER, HOME, "nsew", ((0, 1),))
        self.told({8: 0, 2: 3}, CORNER, HOME, "nsew", ((1, 0),))
        self.told({6: 0, 0: 2}, CORNER, HOME, "nsew", ((0, 0),))
        self.told({7: 0, 1: 1, 8: 0, 2: 3}, CORNER, HOME, "nsew", ((0, 1), (1, 0)))
        self.told({6: 0, 7: 0, 8: 0, 1: 1, 0: 2, 2: 3}, CORNER, HOME, "nsew", CORNER)
        self.told({6: 0, 7: 0, 8: 0, 1: 1, 0: 2}, CORNER, HOME, "ns", CORNER)

    def test_rolls_are_counted_on_from_play_to_play(self):
        # Round the square with one cell watched, a mark of another one comes there only plays later.
        exchanged = exchange(SQUARE, HOME, "nesw")
        self.assertEqual(exchanged[1], 7)
        firsts = model.seen(SQUARE, HOME, "nesw", ((1, 1),))
        self.told(firsts, SQUARE, HOME, "nesw", ((1, 1),))
        self.assertEqual(set(firsts), {0, 1, 2, 6, 7, 8, 9})
        self.assertGreater(max(firsts.values()), 12)

    def test_each_beat_of_a_round_by_hand(self):
        # The trades of two cells there and back: (2, 7), (0, 6), again and again.
        floor = ((1, 1), (2, 1))
        stand = ((1, 1), LYING)
        self.told({6: 0, 0: 2}, floor, stand, "ew", ((1, 1),))
        self.told({7: 0, 2: 1}, floor, stand, "ew", ((2, 1),))
        self.told({6: 0, 7: 0, 2: 1, 0: 2}, floor, stand, "ewew", floor)

    def test_none_and_some_and_all_cells_by_the_model(self):
        late = 0
        for floor, cell, lying, row in samples.round_walks(30):
            for cells in some_cells(floor):
                firsts = model.seen(floor, (cell, lying), row, cells)
                self.told(firsts, floor, (cell, lying), row, cells)
                late += max(firsts.values(), default=0) > 3 * len(row) > 0
        # Marks that come into sight only behind more plays than turn the cube once round.
        self.assertGreater(late, 0)

    def test_each_lot_of_cells_of_the_square(self):
        for many in range(5):
            for cells in itertools.combinations(SQUARE, many):
                for row in ("nesw", "enws", "nsew", "neswew"):
                    self.told(model.seen(SQUARE, HOME, row, cells), SQUARE, HOME, row, cells)

    def test_rows_beyond_sixty_are_not_refused(self):
        row = "nesw" * 25
        for cells in ((), SQUARE, ((1, 1),)):
            self.told(model.seen(SQUARE, HOME, row, cells), SQUARE, HOME, row, cells)


class Refused(unittest.TestCase):
    def refused(self, kind, floor, stand, row, cells):
        refused(self, kind, seen_spots, floor, stand, row, cells)
        refused(self, kind, seen_first, floor, stand, row, cells, 0)

    def test_rows_that_may_not_be_played_without_end(self):
        for row in ("n", "ne", "s", "we", "nesws", "neswn", "nn", "sn"):
            self.refused(NotLet, SQUARE, HOME, row, ())
            self.refused(NotLet, SQUARE, HOME, row, SQUARE)
        self.refused(NotLet, samples.DOT, ((2, 1), LYING), "ns", samples.DOT)
        self.refused(NotLet, samples.LINE, ((0, 2), LYING), "eee", ())

    def test_no_cells(self):
        for floor in samples.FLOORS:
            for thing in samples.watched_wrong(floor):
                self.refused(NoCells, floor, (floor[0], LYING), "", thing)
        for thing in samples.watched_wrong(SQUARE):
            self.refused(NoCells, SQUARE, HOME, "s", thing)

    def test_no_spot(self):
        for floor in samples.FLOORS:
            for thing in samples.spots_wrong(floor):
                refused(self, NoSpot, seen_first, floor, (floor[0], LYING), "", floor, thing)
        for thing in samples.spots_wrong(SQUARE):
            refused(self, NoSpot, seen_first, SQUARE, HOME, "s", (), thing)
            refused(self, NoCells, seen_first, SQUARE, HOME, "s", None, thing)

    def test_the_others(self):
        for thing in samples.floors_wrong():
            self.refused(NoFloor, thing, HOME, "", ())
        for thing in samples.stands_wrong(SQUARE):
            self.refused(NoStand, SQUARE, thing, "", ())
        for thing in samples.rows_wrong():
            self.refused(NoRow, SQUARE, HOME, thing, ())


if __name__ == "__main__":
    unittest.main()
