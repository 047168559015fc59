"""Promises 40 and 41, and 5 of them: marks that are brought somewhere, and marks that never are."""

import unittest

from tests import model, samples
from tests.refusal import refused
from tumblemarks.errors import NoFloor, NoSpot, NoStand
from tumblemarks.marks import exchange, marks_behind
from tumblemarks.wishes import bring, may_come, shows_bring, still

LYING = samples.LYING
CORNER = samples.CORNER
SQUARE = samples.SQUARE
LINE = samples.LINE
RING = samples.RING
HOME = ((0, 0), LYING)
EAST = ((0, 2), LYING)
# On the corner the lying hangs on the cell alone, so a face that is never lowest stays where it is.
STAYS = (((0, 0), LYING, 5), ((0, 1), (1, 5, 2), 5), ((1, 0), (2, 1, 5), 5))
SHUTTLES = (
    ((0, 0), LYING, 2), ((0, 0), LYING, 8), ((0, 1), (1, 5, 2), 2), ((0, 1), (1, 5, 2), 8),
    ((1, 0), (2, 1, 5), 2), ((1, 0), (2, 1, 5), 8),
)


def spots(floor):
    return range(6 + len(floor))


def starts(floor):
    return [(floor[0], LYING), (floor[-1], (4, 5, 3)), (floor[len(floor) // 2], (2, 0, 1))]


class Bring(unittest.TestCase):
    def told(self, wished, floor, stand, spot, to):
        told = bring(floor, stand, spot, to)
        self.assertEqual(told, wished, (floor, stand, spot, to))
        self.assertEqual([type(part) for part in told], [type(part) for part in wished])
        self.assertIs(type(told), tuple)
        self.assertIs(shows_bring(floor, stand, spot, to, told), True, (floor, stand, spot, to))

    def test_a_spot_to_itself(self):
        for floor in samples.FLOORS:
            for stand in starts(floor):
                for spot in spots(floor):
                    self.told(("row", ""), floor, stand, spot, spot)

    def test_a_mark_that_is_brought(self):
        self.told(("row", "n"), CORNER, HOME, 1, 7)
        self.told(("row", "n"), CORNER, HOME, 7, 1)
        self.told(("row", "e"), CORNER, HOME, 2, 8)
        self.told(("row", "ee"), LINE, EAST, 5, 8)
        self.told(("row", "eee"), LINE, EAST, 3, 9)

    def test_the_least_of_as_short_rows(self):
        self.told(("row", "ew"), CORNER, HOME, 0, 6)
        self.told(("row", "ew"), CORNER, HOME, 6, 0)
        self.told(("row", "ns"), ((0, 0), (0, 1)), HOME, 0, 6)

    def test_a_mark_that_never_is(self):
        self.told(("never", STAYS), CORNER, HOME, 5, 6)
        self.told(("never", STAYS), CORNER, HOME, 5, 0)
        self.told(("never", SHUTTLES), CORNER, HOME, 2, 0)
        self.told(("never", SHUTTLES), CORNER, HOME, 8, 7)

    def test_one_cell(self):
        stand = ((2, 1), LYING)
        for spot in spots(samples.DOT):
            for to in spots(samples.DOT):
                wished = ("row", "") if spot == to else ("never", (((2, 1), LYING, spot),))
                self.told(wished, samples.DOT, stand, spot, to)

    def test_cells_that_do_not_touch(self):
        for to in range(13):
            wished = ("row", "") if to == 6 else ("never", (((0, 0), LYING, 6),))
            self.told(wished, samples.SPREAD, HOME, 6, to)

    def by_model(self, floor, stand, spot, to):
        rows = model.least_rows(floor, stand + (spot,))
        fit = [row for here, row in rows.items() if here[2] == to]
        if fit:
            self.told(("row", min(fit, key=lambda row: (len(row), row))), floor, stand, spot, to)
        else:
            self.told(("never", tuple(sorted(rows))), floor, stand, spot, to)

    def test_each_two_spots_by_the_model(self):
        for floor in samples.FLOORS:
            if floor != samples.NINE:
                for stand in starts(floor):
                    for spot in spots(floor):
                        for to in spots(floor):
                            self.by_model(floor, stand, spot, to)

    def test_nine_cells_by_the_model(self):
        for spot in (3, 6):
            for to in spots(samples.NINE):
                self.by_model(samples.NINE, HOME, spot, to)

    def test_the_first_of_all_short_rows(self):
        for spot in spots(SQUARE):
            firsts = {}
            for row in sorted(samples.rows_up_to(6), key=lambda row: (len(row), row)):
                if model.play(SQUARE, *HOME, row, (0,) * 10)[0] is None:
                    firsts.setdefault(model.exchange(SQUARE, *HOME, row)[spot], row)
            for to, row in firsts.items():
                self.told(("row", row), SQUARE, HOME, spot, to)

    def test_the_row_does_so_whatever_the_marks_are(self):
        for floor in (SQUARE, RING):
            marks = samples.marks_plain(floor)
            for spot in spots(floor):
                for to in spots(floor):
                    word, row = bring(floor, starts(floor)[1], spot, to)
                    if word == "row":
                        self.assertEqual(marks_behind(floor, starts(floor)[1], row, marks)[to], marks[spot])

    def test_refusals(self):
        for thing in samples.floors_wrong():
            refused(self, NoFloor, bring, thing, HOME, 0, 0)
            refused(self, NoFloor, shows_bring, thing, HOME, 0, 0, ("row", ""))
        for thing in samples.stands_wrong(SQUARE):
            refused(self, NoStand, bring, SQUARE, thing, 0, 0)
            refused(self, NoStand, shows_bring, SQUARE, thing, 0, 0, ("row", ""))
        for floor in samples.FLOORS:
            stand = (floor[0], LYING)
            for thing in samples.spots_wrong(floor):
                refused(self, NoSpot, bring, floor, stand, thing, 0)
                refused(self, NoSpot, bring, floor, stand, 0, thing)
                refused(self, NoSpot, shows_bring, floor, stand, thing, 0, ("row", ""))
                refused(self, NoSpot, shows_bring, floor, stand, 0, thing, ("row", ""))


class ShowsBring(unittest.TestCase):
    def shows(self, wished, floor, stand, spot, to, thing):
        self.assertIs(shows_bring(floor, stand, spot, to, thing), wished, (floor, stand, spot, to, thing))

    def spoil(self, floor, stand, spot, to, thing, deep, every=1):
        """Each thing spoilt is shown just as the model says; tell how many are shown and how many aren't."""
        told = {True: 0, False: 0}
        for at, other in enumerate(samples.spoilt(thing, deep)):
            if at % every == 0:
                wished = model.shows_bring(floor, stand, spot, to, other)
                self.shows(wished, floor, stand, spot, to, other)
                told[wished] += 1
        return told

    def test_rows_longer_than_the_shortest(self):
        self.shows(True, CORNER, HOME, 1, 7, ("row", "n"))
        self.shows(True, CORNER, HOME, 1, 7, ("row", "nse"))
        self.shows(True, CORNER, HOME, 1, 7, ("row", "ewn"))
        self.shows(True, CORNER, HOME, 1, 7, ("row", "nsnsn"))
        self.shows(True, CORNER, HOME, 1, 7, ("row", "nsns" * 300 + "n"))
        self.shows(False, CORNER, HOME, 1, 7, ("row", "nsns" * 300))
        self.shows(True, CORNER, HOME, 0, 6, ("row", "ns"))

    def test_rows_that_do_not_bring_it_or_are_not_let(self):
        for row in ("", "e", "nsn", "ew", "nsns", "nn", "nsnn", "s", "w", "snn", "nx", "N", " n", "n "):
            self.shows(False, CORNER, HOME, 1, 7, ("row", row))

    def test_each_short_row(self):
        for row in samples.rows_up_to(5):
            let = model.play(SQUARE, *HOME, row, (0,) * 10)[0] is None
            for spot in (0, 1, 8):
                for to in spots(SQUARE):
                    wished = let and exchange(SQUARE, HOME, row)[spot] == to
                    self.shows(wished, SQUARE, HOME, spot, to, ("row", row))

    def test_each_row_with_one_part_otherwise(self):
        told = [
            self.spoil(SQUARE, HOME, 0, 3, ("row", ""), 3),
            self.spoil(SQUARE, HOME, 0, 7, bring(SQUARE, HOME, 0, 7), 3),
            self.spoil(CORNER, HOME, 1, 7, ("row", "nsewn"), 3),
            self.spoil(LINE, EAST, 3, 9, ("row", "eee"), 3),
        ]
        self.assertEqual([counts[True] > 0 for counts in told], [False, True, True, True])

    def test_a_lot_that_is_just_as_told(self):
        self.shows(True, CORNER, HOME, 5, 6, ("never", STAYS))
        self.shows(True, CORNER, HOME, 5, 4, ("never", STAYS))
        self.shows(True, CORNER, HOME, 2, 0, ("never", SHUTTLES))
        self.shows(True, CORNER, HOME, 8, 7, ("never", SHUTTLES))

    def test_a_lot_in_which_the_wished_spot_is(self):
        self.shows(False, CORNER, HOME, 5, 5, ("never", STAYS))
        self.shows(False, CORNER, HOME, 2, 8, ("never", SHUTTLES))
        self.shows(False, CORNER, HOME, 2, 2, ("never", SHUTTLES))

    def test_a_lot_without_the_beginning(self):
        self.shows(False, CORNER, HOME, 5, 6, ("never", ()))
        self.shows(False, CORNER, HOME, 4, 6, ("never", STAYS))
        self.shows(False, CORNER, ((0, 1), LYING), 5, 6, ("never", STAYS))
        self.shows(False, CORNER, ((0, 0), (0, 2, 4)), 5, 6, ("never", STAYS))

    def test_a_lot_with_one_left_out_or_twice_or_the_wrong_way_about(self):
        for lot, spot, to in ((STAYS, 5, 6), (SHUTTLES, 2, 0)):
            for at in range(len(lot)):
                self.shows(False, CORNER, HOME, spot, to, ("never", lot[:at] + lot[at + 1:]))
                self.shows(False, CORNER, HOME, spot, to, ("never", lot[:at] + lot[at:at + 1] + lot[at:]))
            for at in range(len(lot) - 1):
                turned = lot[:at] + (lot[at + 1], lot[at]) + lot[at + 2:]
                self.shows(False, CORNER, HOME, spot, to, ("never", turned))
            self.shows(False, CORNER, HOME, spot, to, ("never", lot[::-1]))

    def test_a_greater_lot_that_is_closed(self):
        both = tuple(sorted(STAYS + SHUTTLES))
        self.shows(True, CORNER, HOME, 5, 6, ("never", both))
        self.shows(True, CORNER, HOME, 2, 6, ("never", both))
        self.shows(True, CORNER, HOME, 8, 4, ("never", both))
        self.shows(False, CORNER, HOME, 5, 2, ("never", both))
        self.shows(False, CORNER, HOME, 5, 8, ("never", both))
        self.shows(False, CORNER, HOME, 5, 6, ("never", STAYS + SHUTTLES))

    def test_a_greater_lot_of_lyings_that_the_cube_never_has(self):
        other = model.least_rows(CORNER, ((0, 0), (5, 4, 2), 1))
        self.assertNotIn(((0, 0), LYING), {here[:2] for here in other})
        spotless = [spot for spot in spots(CORNER) if spot not in {here[2] for here in other} | {5}]
        for to in spotless:
            self.shows(True, CORNER, HOME, 5, to, ("never", tuple(sorted(STAYS + tuple(other)))))

    def test_a_greater_lot_of_a_cell_without_neighbours(self):
        lot = (((0, 0), LYING, 6), ((0, 3), (4, 5, 3), 2), ((3, 3), LYING, 7))
        for to in range(13):
            self.shows(to not in (6, 2, 7), samples.SPREAD, HOME, 6, to, ("never", lot))
        self.shows(False, samples.SPREAD, HOME, 6, 3, ("never", lot + (((3, 3), (0, 2, 1), 7),)))
        self.shows(False, samples.SPREAD, HOME, 6, 3, ("never", lot[:1] + (((0, 1), LYING, 7),) + lot[1:]))
        self.shows(False, samples.SPREAD, HOME, 6, 3, ("never", lot + (((3, 3), LYING, 13),)))
        self.shows(False, samples.SPREAD, HOME, 6, 3, ("never", (((0, 0), LYING, -1),) + lot))

    def test_a_greater_lot_that_is_not_closed(self):
        for place in model.places(CORNER).values():
            if place not in SHUTTLES:
                lot = tuple(sorted(SHUTTLES + (place,)))
                self.shows(False, CORNER, HOME, 2, 0, ("never", lot))

    def test_either_answer_where_the_other_one_is_due(self):
        for spot in spots(SQUARE):
            for to in spots(SQUARE):
                rows = model.least_rows(SQUARE, HOME + (spot,))
                word = bring(SQUARE, HOME, spot, to)[0]
                self.shows(word == "never", SQUARE, HOME, spot, to, ("never", tuple(sorted(rows))))
                brought = any(shows_bring(SQUARE, HOME, spot, to, ("row", row)) for row in rows.values())
                self.assertIs(brought, word == "row")

    def test_each_lot_with_one_part_otherwise(self):
        told = [
            self.spoil(CORNER, HOME, 5, 6, ("never", STAYS), 4), self.spoil(CORNER, HOME, 2, 0, ("never", SHUTTLES), 4),
            self.spoil(LINE, EAST, 7, 3, bring(LINE, EAST, 7, 3), 4),
            self.spoil(samples.DOT, ((2, 1), LYING), 0, 6, ("never", (((2, 1), LYING, 0),)), 4),
        ]
        self.assertEqual([counts[False] > 500 for counts in told], [True] * 4)

    def test_a_great_lot_with_one_part_otherwise(self):
        told = bring(SQUARE, HOME, 0, 3)
        self.assertEqual(len(told[1]), 84)
        self.spoil(SQUARE, HOME, 0, 3, told, 4, every=23)
        for at in range(84):
            self.shows(False, SQUARE, HOME, 0, 3, ("never", told[1][:at] + told[1][at + 1:]))

    def test_truths_for_numbers(self):
        stands = (((False, 0), LYING), ((0, False), LYING), ((0, 0), (False, 1, 2)), ((0, 0), (0, True, 2)))
        for stand in stands:
            place = stand + (5,)
            self.assertEqual(place, STAYS[0])
            self.shows(False, CORNER, HOME, 5, 6, ("never", (place,) + STAYS[1:]))
        ones = bring(CORNER, HOME, 1, 5)[1]
        truths = tuple((cell, lying, True if spot == 1 else spot) for cell, lying, spot in ones)
        self.assertEqual(truths, ones)
        self.shows(True, CORNER, HOME, 1, 5, ("never", ones))
        self.shows(False, CORNER, HOME, 1, 5, ("never", truths))

    def test_things_of_other_kinds(self):
        for thing in samples.odd_things() + samples.stands_wrong(CORNER):
            for spot, to in ((5, 6), (1, 7), (0, 0)):
                self.shows(False, CORNER, HOME, spot, to, thing)
                for word in ("row", "never"):
                    self.shows(False, CORNER, HOME, spot, to, (word, thing))
                self.shows(False, CORNER, HOME, spot, to, (thing, "n"))
                self.shows(False, CORNER, HOME, spot, to, (thing, STAYS))
                self.shows(False, CORNER, HOME, spot, to, ("never", (thing,)))
                self.shows(False, CORNER, HOME, spot, to, ("never", STAYS + (thing,)))
                self.shows(False, CORNER, HOME, spot, to, ("never", (thing,) + STAYS))

    def test_near_to_either(self):
        for thing in (
            ["row", "n"], ("row",), ("row", "n", None), ("row", ("n",)), ("row", ["n"]), ("Row", "n"), ("never", "n"),
            ("way", "n"), "n", "row n", ("n", "row"), (("row", "n"),), {"row": "n"}, ("row", None), ("", "n"),
        ):
            self.shows(False, CORNER, HOME, 1, 7, thing)
        for thing in (
            ["never", STAYS], ("never",), ("never", STAYS, ()), ("never", list(STAYS)), ("row", STAYS), STAYS,
            ("never", dict.fromkeys(STAYS)), ("never", (STAYS,)), ("Never", STAYS), ("never", tuple(map(list, STAYS))),
            ("never", tuple((stand[:2], stand[2]) for stand in STAYS)), ("never", tuple(here[:2] for here in STAYS)),
        ):
            self.shows(False, CORNER, HOME, 5, 6, thing)


class MayCome(unittest.TestCase):
    def told(self, wished, floor, stand, spot):
        told = may_come(floor, stand, spot)
        self.assertEqual(told, wished, (floor, stand, spot))
        self.assertIs(type(told), tuple)

    def test_one_cell(self):
        for stand in samples.stands(samples.DOT):
            for spot in spots(samples.DOT):
                self.told((spot,), samples.DOT, stand, spot)

    def test_in_a_line(self):
        # Going to the east, the faces 0, 2, 5 and 3 each lie lowest on one cell alone.
        wished = {0: 6, 2: 7, 5: 8, 3: 9}
        for face in range(6):
            self.told((face, wished[face]) if face in wished else (face,), LINE, EAST, face)
        for face, cell in wished.items():
            self.told((face, cell), LINE, EAST, cell)

    def test_where_a_way_goes_round(self):
        for spot in (0, 1, 2, 6, 7, 8, 9):
            self.told((0, 1, 2, 6, 7, 8, 9), SQUARE, HOME, spot)
        for spot in (3, 4, 5):
            self.told((spot,), SQUARE, HOME, spot)
        for spot in spots(samples.NINE):
            self.told(tuple(range(15)), samples.NINE, HOME, spot)

    def test_just_the_spots_to_which_it_is_brought(self):
        for floor in samples.FLOORS[:-2]:
            for stand in starts(floor):
                for spot in spots(floor):
                    wished = tuple(to for to in spots(floor) if bring(floor, stand, spot, to)[0] == "row")
                    self.told(wished, floor, stand, spot)
                    rows = model.least_rows(floor, stand + (spot,))
                    self.told(tuple(sorted({here[2] for here in rows})), floor, stand, spot)

    def test_refusals(self):
        for thing in samples.floors_wrong():
            refused(self, NoFloor, may_come, thing, HOME, 0)
        for thing in samples.stands_wrong(SQUARE):
            refused(self, NoStand, may_come, SQUARE, thing, 0)
        for floor in samples.FLOORS:
            for thing in samples.spots_wrong(floor):
                refused(self, NoSpot, may_come, floor, (floor[0], LYING), thing)


class Still(unittest.TestCase):
    def told(self, wished, floor, stand):
        told = still(floor, stand)
        self.assertEqual(told, wished, (floor, stand))
        self.assertIs(type(told), tuple)

    def test_one_cell_and_a_cell_without_neighbours(self):
        for stand in samples.stands(samples.DOT):
            self.told((0, 1, 2, 3, 4, 5, 6), samples.DOT, stand)
        self.told(tuple(range(13)), samples.SPREAD, HOME)

    def test_in_a_line(self):
        self.told((1, 4), LINE, EAST)
        self.told((2, 3), samples.POST, ((3, 0), LYING))
        self.told((3, 4, 5), CORNER, HOME)
        self.told((1, 3, 4, 5), ((1, 1), (2, 1)), ((1, 1), LYING))
        self.told((1, 2, 4, 5), ((1, 1), (2, 1)), ((2, 1), LYING))

    def test_around(self):
        self.told((3, 4, 5), SQUARE, HOME)
        self.told((), samples.NINE, HOME)
        self.told((3, 4), RING, ((1, 1), LYING))

    def test_cells_that_no_row_reaches(self):
        self.told((1, 3, 4, 5, 6, 7, 8, 9, 12), samples.SPREAD, ((2, 0), LYING))
        self.told((2, 3, 4, 5, 6, 7, 10, 11, 12), samples.SPREAD, ((1, 1), LYING))

    def test_just_the_spots_whose_marks_come_nowhere_else(self):
        for floor in samples.FLOORS:
            for stand in starts(floor):
                wished = tuple(spot for spot in spots(floor) if may_come(floor, stand, spot) == (spot,))
                self.told(wished, floor, stand)

    def test_no_row_moves_them_and_some_row_moves_the_others(self):
        for floor, cell, lying, row in samples.long_walks(200):
            for many in range(len(row) + 1):
                exchanged = model.exchange(floor, cell, lying, row[:many])
                for spot in still(floor, (cell, lying)):
                    self.assertEqual(exchanged[spot], spot)
        for floor in samples.FLOORS[:-2]:
            for stand in starts(floor):
                moved = set()
                for row in model.least_rows(floor, stand).values():
                    for letter in "nesw":
                        if model.play(floor, *stand, row + letter, (0,) * 15)[0] is None:
                            behind = model.exchange(floor, *stand, row + letter)
                            moved.update(spot for spot in spots(floor) if behind[spot] != spot)
                self.told(tuple(spot for spot in spots(floor) if spot not in moved), floor, stand)

    def test_refusals(self):
        for thing in samples.floors_wrong():
            refused(self, NoFloor, still, thing, HOME)
        for floor in samples.FLOORS:
            for thing in samples.stands_wrong(floor):
                refused(self, NoStand, still, floor, thing)


if __name__ == "__main__":
    unittest.main()
