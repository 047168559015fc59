"""Promise 80, and 5 of it: rows that are mended, by rolls left out or by one more cell."""

import itertools
import random
import unittest

from tests import model, samples
from tests.refusal import refused
from tumblemarks.errors import NoCell, NoFloor, NoRow
from tumblemarks.mending import cells_more, left_out, mends

CORNER = samples.CORNER
SQUARE = samples.SQUARE
LINE = samples.LINE
NINE = samples.NINE
HOME = (0, 0)
CELLS = [(column, line) for column in range(4) for line in range(4)]


def is_let(floor, cell, row):
    return model.play(floor, cell, samples.LYING, row, (0,) * 16)[0] is None


def without(row, places):
    return "".join(letter for place, letter in enumerate(row) if place not in places)


def all_places(row):
    """All rising tuples of places of the row, fewer ones ahead, of as many the lesser ahead."""
    for many in range(len(row) + 1):
        yield from itertools.combinations(range(len(row)), many)


def by_all_lots(floor, cell, row):
    return next(places for places in all_places(row) if is_let(floor, cell, without(row, places)))


def by_best_so_far(floor, cell, row):
    """From the front on: of each cell to which what is kept leads the fewest places left out, of as few the least."""
    best = {cell: (0, ())}
    for place, letter in enumerate(row):
        behind = {}
        for here, (many, places) in best.items():
            found = [(here, (many + 1, places + (place,)))]
            if model.step(here, letter) in floor:
                found.append((model.step(here, letter), (many, places)))
            for there, told in found:
                behind[there] = min(told, behind.get(there, told))
        best = behind
    return min(best.values())[1]


def any_rows(many, most):
    """Tuples (floor, cell, row), the same at each call, the row being of any letters."""
    chance = random.Random(80)
    for at in range(many):
        floor = samples.FLOORS[at % len(samples.FLOORS)]
        if at % 3 == 0:
            floor = tuple(sorted(chance.sample(CELLS, chance.randint(1, 9))))
        row = "".join(chance.choice("nesw") for _ in range(most if at % 2 else chance.randint(0, most)))
        yield floor, chance.choice(floor), row


class LeftOut(unittest.TestCase):
    def told(self, wished, floor, cell, row):
        told = left_out(floor, cell, row)
        self.assertEqual(told, wished, (floor, cell, row))
        self.assertIs(type(told), tuple)
        self.assertIs(mends(floor, cell, row, told), True, (floor, cell, row))

    def test_rows_that_are_let(self):
        for floor in samples.FLOORS:
            for cell in floor:
                self.told((), floor, cell, "")
        for floor, cell, _, row in samples.long_walks(100):
            self.told((), floor, cell, row)

    def test_one_roll(self):
        self.told((0,), CORNER, HOME, "s")
        self.told((0,), CORNER, HOME, "w")
        self.told((0,), CORNER, HOME, "nn")
        self.told((0,), CORNER, HOME, "ne")
        self.told((), CORNER, HOME, "nse")
        self.told((2,), CORNER, HOME, "nsee")

    def test_of_as_few_the_least(self):
        # Any one of the four may be left out.
        self.told((0,), LINE, (0, 2), "eeee")
        self.told((0, 1), LINE, (0, 2), "eeeee")
        self.told((0,), SQUARE, HOME, "nn")
        self.told((0,), SQUARE, HOME, "nen")

    def test_fewer_ones_go_ahead_of_lesser_ones(self):
        # Without the last one all is let; whoever leaves out the first must leave out more.
        self.told((3,), CORNER, HOME, "nses")
        self.told((1,), CORNER, HOME, "nes")
        self.told((2,), LINE, (0, 2), "een")

    def test_one_cell(self):
        for row in ("n", "nesw", "nesw" * 15):
            self.told(tuple(range(len(row))), samples.DOT, (2, 1), row)

    def test_short_rows_by_all_lots(self):
        for floor in (CORNER, SQUARE, LINE, samples.SPREAD):
            for cell in floor:
                for row in samples.rows_up_to(4):
                    self.told(by_all_lots(floor, cell, row), floor, cell, row)

    def test_rows_of_nine_rolls_by_all_lots(self):
        for floor, cell, row in any_rows(150, 9):
            self.told(by_all_lots(floor, cell, row), floor, cell, row)

    def test_rows_of_sixty_rolls(self):
        self.told(tuple(range(57)), LINE, (0, 2), "e" * 60)
        self.told((), LINE, (0, 2), "ew" * 30)
        self.told(tuple(range(1, 60, 2)), LINE, (0, 2), "enenenwnwnwn" * 5)
        for floor, cell, row in any_rows(300, 60):
            self.assertEqual(by_best_so_far(floor, cell, row[:7]), by_all_lots(floor, cell, row[:7]))
            self.told(by_best_so_far(floor, cell, row), floor, cell, row)

    def test_rows_beyond_sixty_are_not_refused(self):
        self.told(tuple(range(177)), LINE, (0, 2), "e" * 180)
        self.told((), LINE, (0, 2), "ew" * 90)


class Mends(unittest.TestCase):
    def told(self, wished, floor, cell, row, thing):
        self.assertIs(mends(floor, cell, row, thing), wished, (floor, cell, row, thing))

    def test_each_lot_of_places_of_short_rows(self):
        yes = 0
        for floor in (CORNER, SQUARE, LINE):
            for row in samples.rows_up_to(4):
                for places in all_places(row):
                    wished = is_let(floor, floor[0], without(row, places))
                    self.told(wished, floor, floor[0], row, places)
                    yes += wished
        self.assertGreater(yes, 1000)

    def test_more_than_the_fewest_and_none_and_all(self):
        self.told(True, CORNER, HOME, "nses", (3,))
        self.told(True, CORNER, HOME, "nses", (0, 1, 2, 3))
        self.told(True, CORNER, HOME, "nses", (1, 2))
        self.told(False, CORNER, HOME, "nses", ())
        self.told(False, CORNER, HOME, "nses", (0,))
        self.told(True, CORNER, HOME, "nse", ())
        self.told(True, CORNER, HOME, "", ())

    def test_places_that_the_row_has_not(self):
        for thing in ((4,), (3, 4), (-1,), (-1, 3), (3, 9999999999999), (3, 60)):
            self.told(False, CORNER, HOME, "nses", thing)
        for thing in ((0,), (-1,), (1,)):
            self.told(False, CORNER, HOME, "", thing)

    def test_not_rising(self):
        for thing in ((3, 3), (3, 2), (2, 1), (0, 1, 3, 2), (0, 0, 1, 2, 3), (3, 0)):
            self.told(False, CORNER, HOME, "nses", thing)

    def test_truths_for_numbers(self):
        self.told(True, CORNER, HOME, "nnse", (0,))
        self.told(False, CORNER, HOME, "nnse", (False,))
        self.told(True, CORNER, HOME, "nnse", (1,))
        self.told(False, CORNER, HOME, "nnse", (True,))
        self.told(True, CORNER, HOME, "nses", (1, 2))
        self.told(False, CORNER, HOME, "nses", (True, 2))

    def test_things_of_other_kinds(self):
        for row in ("", "n", "nses", "ew" * 30):
            for thing in samples.odd_but([(), (0,), (0, 1, 2, 3), (0, 1, 3)]):
                self.told(False, CORNER, HOME, row, thing)
        for thing in ([3], [], {3: 3}, "3", 3, None, (None,), ("3",), ([3],), ((3,),), (3, None), (None, 3), {}, ""):
            self.told(False, CORNER, HOME, "nses", thing)
        self.told(False, CORNER, HOME, "nse", [])
        self.told(False, CORNER, HOME, "nse", {})
        self.told(False, CORNER, HOME, "nse", None)
        self.told(False, CORNER, HOME, "nse", "")

    def test_what_was_told_with_one_part_otherwise(self):
        yes = 0
        for floor, cell, row in any_rows(60, 30):
            told = left_out(floor, cell, row)
            for thing in samples.spoilt(told, 2):
                plain = type(thing) is tuple and all(type(part) is int and 0 <= part < len(row) for part in thing)
                wished = plain and list(thing) == sorted(set(thing)) and is_let(floor, cell, without(row, thing))
                self.told(wished, floor, cell, row, thing)
                yes += wished
        self.assertGreater(yes, 50)

    def test_fewer_than_told_never_do(self):
        for floor, cell, row in any_rows(100, 10):
            many = len(left_out(floor, cell, row))
            if many:
                for places in itertools.combinations(range(len(row)), many - 1):
                    self.told(False, floor, cell, row, places)


class CellsMore(unittest.TestCase):
    def told(self, wished, floor, cell, row):
        told = cells_more(floor, cell, row)
        self.assertEqual(told, wished, (floor, cell, row))
        self.assertIs(type(told), tuple)

    def by_model(self, floor, cell, row):
        if len(floor) == 9 or is_let(floor, cell, row):
            wished = ()
        else:
            wished = tuple(
                other for other in CELLS
                if other not in floor and is_let(tuple(sorted(floor + (other,))), cell, row)
            )
        self.told(wished, floor, cell, row)
        return wished

    def test_rows_that_are_let(self):
        for floor in samples.FLOORS:
            for cell in floor:
                self.told((), floor, cell, "")
        for floor, cell, _, row in samples.long_walks(100):
            self.told((), floor, cell, row)

    def test_one_cell_more(self):
        self.told(((1, 1),), CORNER, HOME, "ne")
        self.told(((1, 1),), CORNER, HOME, "nesw" * 15)
        self.told(((0, 2),), CORNER, HOME, "nn")
        self.told(((2, 0),), CORNER, HOME, "nsee")

    def test_two_cells_more_or_one_beyond(self):
        self.told((), CORNER, HOME, "nnn")
        self.told((), CORNER, HOME, "neee")
        self.told((), CORNER, HOME, "s")
        self.told((), CORNER, HOME, "w")
        self.told((), LINE, (0, 2), "eeee")
        self.told((), samples.POST, (3, 0), "nnnn")
        self.told((), CORNER, HOME, "nnssnees")

    def test_nine_cells(self):
        for row in ("eee", "nnn", "e" * 60, "s", "eeen"):
            self.told((), NINE, HOME, row)
        eight = NINE[:-1]
        self.told(((2, 2),), eight, HOME, "eenn")
        self.told(((3, 0),), eight, HOME, "eee")
        self.told((), NINE, HOME, "eennwe")

    def test_short_rows_by_the_model(self):
        some = 0
        for floor in samples.FLOORS:
            for cell in floor:
                for row in samples.rows_up_to(4):
                    some += self.by_model(floor, cell, row) != ()
        self.assertGreater(some, 500)

    def test_long_rows_by_the_model(self):
        some = 0
        for floor, cell, _, row in samples.long_walks(150):
            for gone in floor:
                if gone != cell:
                    some += self.by_model(tuple(other for other in floor if other != gone), cell, row) != ()
        for floor, cell, row in any_rows(150, 12):
            some += self.by_model(floor, cell, row) != ()
        self.assertGreater(some, 200)


class Refused(unittest.TestCase):
    def refused(self, kind, floor, cell, row):
        refused(self, kind, left_out, floor, cell, row)
        refused(self, kind, mends, floor, cell, row, ())
        refused(self, kind, mends, floor, cell, row, None)
        refused(self, kind, cells_more, floor, cell, row)

    def test_each(self):
        for thing in samples.floors_wrong():
            self.refused(NoFloor, thing, HOME, "")
        for floor in samples.FLOORS:
            for thing in samples.cells_wrong(floor):
                self.refused(NoCell, floor, thing, "")
        for thing in samples.rows_wrong():
            self.refused(NoRow, SQUARE, HOME, thing)


if __name__ == "__main__":
    unittest.main()
