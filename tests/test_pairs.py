"""Promise 70, and 5 of it: two cubes that go by turns."""

import itertools
import random
import unittest

from tests import model, samples, two
from tests.refusal import refused
from tests.two import FLOORS, pairs, turns
from tumblemarks.errors import NoFloor, NoPair, NotLet, NoTurns
from tumblemarks.pairs import exchange_two, first_stop, pair_behind

LYING = samples.LYING
CORNER = samples.CORNER
SQUARE = samples.SQUARE
LINE = samples.LINE
OTHER = (4, 5, 3)
# The ends of the corner, and those of the line.
ENDS = (((0, 1), LYING), ((1, 0), LYING))
FAR = (((0, 2), LYING), ((3, 2), OTHER))
OF_TURNS = (pair_behind, exchange_two)


class FirstStop(unittest.TestCase):
    def told(self, wished, floor, pair, took):
        told = first_stop(floor, pair, took)
        self.assertEqual(told, wished, (floor, pair, took))
        self.assertIs(type(told), type(wished), (floor, pair, took))

    def test_no_turns(self):
        for floor in FLOORS:
            for pair in pairs(floor):
                self.told(None, floor, pair, ())

    def test_off_the_floor(self):
        self.told(0, CORNER, ENDS, turns("0", "n"))
        self.told(0, CORNER, ENDS, turns("1", "e"))
        self.told(0, CORNER, ENDS, turns("0", "e"))
        self.told(1, CORNER, ENDS, turns("00", "ss"))
        self.told(2, CORNER, ENDS, turns("111", "wee"))

    def test_onto_the_other_ones_cell(self):
        self.told(None, CORNER, ENDS, turns("0", "s"))
        self.told(None, CORNER, ENDS, turns("1", "w"))
        self.told(1, CORNER, ENDS, turns("01", "sw"))
        self.told(1, CORNER, ENDS, turns("10", "ws"))
        self.told(1, CORNER, ENDS, turns("00", "se"))
        self.told(3, CORNER, ENDS, turns("0011", "snww"))
        self.told(0, ((1, 1), (2, 1)), (((1, 1), LYING), ((2, 1), LYING)), turns("0", "e"))
        self.told(0, ((1, 1), (2, 1)), (((1, 1), LYING), ((2, 1), LYING)), turns("1", "w"))

    def test_onto_a_cell_that_the_other_one_has_left(self):
        # The first cube was at (0, 1); the second one follows it.
        self.told(None, SQUARE, (((0, 1), LYING), ((0, 0), LYING)), turns("01", "en"))
        self.told(0, SQUARE, (((0, 1), LYING), ((0, 0), LYING)), turns("10", "ne"))
        self.told(None, LINE, (((1, 2), LYING), ((0, 2), OTHER)), turns("0101", "eeee"))
        self.told(4, LINE, (((1, 2), LYING), ((0, 2), OTHER)), turns("01011", "eeeee"))

    def test_they_do_not_change_places(self):
        self.told(0, LINE, (((1, 2), LYING), ((2, 2), LYING)), turns("01", "ew"))
        self.told(0, LINE, (((1, 2), LYING), ((2, 2), LYING)), turns("10", "we"))

    def test_the_first_of_several(self):
        self.told(1, CORNER, ENDS, turns("01010", "swnnw"))
        self.told(0, CORNER, ENDS, turns("00000", "nnnnn"))

    def test_twenty_four_turns(self):
        self.told(None, CORNER, ENDS, turns("0" * 24, "sn" * 12))
        self.told(None, LINE, FAR, turns("01" * 12, "ewwe" * 6))
        self.told(23, CORNER, ENDS, turns("0" * 24, "sn" * 11 + "ss"))
        self.told(0, CORNER, ENDS, turns("1" * 24, "n" * 24))

    def test_each_few_turns_by_the_model(self):
        for floor in (CORNER, SQUARE, ((1, 1), (2, 1))):
            for pair in pairs(floor):
                for took in two.turns_up_to(3):
                    self.told(two.play(floor, pair, took, (0,) * 21)[0], floor, pair, took)

    def test_refusals(self):
        for thing in samples.floors_wrong():
            refused(self, NoFloor, first_stop, thing, ENDS, ())
        for floor in FLOORS:
            for thing in samples.pairs_wrong(floor):
                refused(self, NoPair, first_stop, floor, thing, ())
        for thing in samples.turns_wrong():
            refused(self, NoTurns, first_stop, CORNER, ENDS, thing)

    def test_a_floor_of_one_cell_has_no_pair(self):
        stand = ((2, 1), LYING)
        for ask in (first_stop, *OF_TURNS):
            refused(self, NoPair, ask, samples.DOT, (stand, stand), ())
            refused(self, NoPair, ask, samples.DOT, (stand, ((2, 2), LYING)), ())

    def test_a_wrong_turn_behind_one_that_is_not_let(self):
        for ask in (first_stop, *OF_TURNS):
            refused(self, NoTurns, ask, CORNER, ENDS, turns("0", "n") + ((2, "n"),))
            refused(self, NoTurns, ask, CORNER, ENDS, turns("0", "n") * 25)


class Behind(unittest.TestCase):
    def told(self, pair_wished, exchange_wished, floor, pair, took):
        self.assertEqual(pair_behind(floor, pair, took), pair_wished, (floor, pair, took))
        self.assertIs(type(pair_behind(floor, pair, took)), tuple)
        self.assertEqual(exchange_two(floor, pair, took), exchange_wished, (floor, pair, took))
        self.assertIs(type(exchange_two(floor, pair, took)), tuple)

    def by_model(self, floor, pair, took):
        """Checked mark by mark: marks that are all unlike, and to which spot each has come."""
        stopped, behind, _ = two.play(floor, pair, took, (0,) * 21)
        if stopped is None:
            self.told(behind, two.exchange(floor, pair, took), floor, pair, took)
        else:
            for ask in OF_TURNS:
                refused(self, NotLet, ask, floor, pair, took)
        return stopped is None

    def test_no_turns(self):
        for floor in FLOORS:
            for pair in pairs(floor):
                self.told(pair, tuple(range(12 + len(floor))), floor, pair, ())

    def test_one_turn(self):
        # By s face 4 comes to lie lowest, by w face 3; the cell (0, 0) is spot 12.
        south = (4, 0, 2)
        west = (3, 1, 0)
        spots = list(range(15))
        spots[4], spots[12] = 12, 4
        self.told((((0, 0), south), ENDS[1]), tuple(spots), CORNER, ENDS, turns("0", "s"))
        spots = list(range(15))
        spots[9], spots[12] = 12, 9
        self.told((ENDS[0], ((0, 0), west)), tuple(spots), CORNER, ENDS, turns("1", "w"))

    def test_both_tread_on_one_cell(self):
        # The first brings its mark 4 to the cell, and goes back; the second takes it up: 4 comes to 9, 9 to the cell.
        pair = ENDS
        took = turns("0011", "snwe")
        wished = list(range(15))
        wished[4], wished[12], wished[9] = 9, 4, 12
        wished[0], wished[13] = 13, 0
        wished[6], wished[14] = 14, 6
        self.told(pair, tuple(wished), CORNER, pair, took)

    def test_each_few_turns_by_the_model(self):
        let = 0
        for floor in (CORNER, SQUARE, LINE):
            for pair in list(pairs(floor))[::2]:
                for took in two.turns_up_to(3):
                    let += self.by_model(floor, pair, took)
        self.assertGreater(let, 300)

    def test_twenty_four_turns_by_the_model(self):
        chance = random.Random(70)
        for floor in FLOORS:
            for pair in list(pairs(floor))[::3]:
                took = two.let_turns(chance, floor, pair, 24)
                if took:
                    self.assertEqual(len(took), 24)
                self.assertTrue(self.by_model(floor, pair, took))
                for turn in itertools.product((0, 1), "nesw"):
                    self.by_model(floor, pair, took[:23] + (turn,))

    def test_one_cube_alone_does_as_one_cube(self):
        for floor, cell, lying, row in samples.long_walks(100):
            row = row[:24]
            cells = {model.play(floor, cell, lying, row[:many], (0,) * 15)[1][0] for many in range(len(row) + 1)}
            free = [other for other in floor if other not in cells]
            if not free:
                continue
            many = 6 + len(floor)
            for cube in (0, 1):
                pair = ((cell, lying), (free[0], OTHER))[::1 - 2 * cube]
                spots = [spot + 6 * cube if spot < 6 else spot + 6 for spot in range(many)]
                behind = model.play(floor, cell, lying, row, (0,) * 15)[1]
                wished = list(range(12 + len(floor)))
                for spot, to in enumerate(model.exchange(floor, cell, lying, row)):
                    wished[spots[spot]] = spots[to]
                pair_wished = (behind, (free[0], OTHER))[::1 - 2 * cube]
                self.told(pair_wished, tuple(wished), floor, pair, tuple((cube, letter) for letter in row))

    def test_not_let(self):
        for ask in OF_TURNS:
            for took in (turns("0", "n"), turns("01", "sw"), turns("00", "se"), turns("0" * 24, "sn" * 11 + "ss")):
                refused(self, NotLet, ask, CORNER, ENDS, took)

    def test_refusals(self):
        for ask in OF_TURNS:
            for thing in samples.floors_wrong():
                refused(self, NoFloor, ask, thing, ENDS, ())
            for thing in samples.pairs_wrong(SQUARE):
                refused(self, NoPair, ask, SQUARE, thing, ())
            for thing in samples.turns_wrong():
                refused(self, NoTurns, ask, CORNER, ENDS, thing)


if __name__ == "__main__":
    unittest.main()
