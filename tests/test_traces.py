"""Promise 71, and 5 of it: turns that come of one another by exchanges of neighbours."""

import itertools
import math
import random
import unittest

from tests import samples, two
from tests.refusal import refused
from tests.two import FLOORS, pairs, turns
from tumblemarks.errors import NoFloor, NoPair, NotLet, NoTurns
from tumblemarks.pairs import exchange_two, pair_behind
from tumblemarks.traces import come_of, how_many, least_turns

LYING = samples.LYING
OTHER = (4, 5, 3)
CORNER = samples.CORNER
SQUARE = samples.SQUARE
ENDS = (((0, 1), LYING), ((1, 0), LYING))
# Two lines that don't meet, a cube on each.
LINES = ((0, 0), (0, 1), (0, 2), (0, 3), (2, 0), (2, 1), (2, 2), (2, 3))
APART = (((0, 0), LYING), ((2, 3), OTHER))
FOLLOW = (((0, 1), LYING), ((0, 0), LYING))
OF_TURNS = (least_turns, how_many)


class Traces(unittest.TestCase):
    def told(self, least, many, floor, pair, took):
        told = least_turns(floor, pair, took)
        self.assertEqual(told, least, (floor, pair, took))
        self.assertIs(type(told), tuple)
        told = how_many(floor, pair, took)
        self.assertEqual(told, many, (floor, pair, took))
        self.assertIs(type(told), int)

    def by_lists(self, floor, pair, took):
        lot = two.all_of(pair, took)
        self.told(min(lot), len(lot), floor, pair, took)
        return lot

    def test_no_turns_and_one(self):
        for floor in FLOORS:
            for pair in pairs(floor):
                self.told((), 1, floor, pair, ())
                for turn in itertools.product((0, 1), "nesw"):
                    if two.is_let(floor, pair, (turn,)):
                        self.told((turn,), 1, floor, pair, (turn,))

    def test_one_cube_alone(self):
        self.told(turns("0" * 24, "sn" * 12), 1, CORNER, ENDS, turns("0" * 24, "sn" * 12))
        self.told(turns("1" * 24, "we" * 12), 1, CORNER, ENDS, turns("1" * 24, "we" * 12))

    def test_turns_without_a_cell_in_common(self):
        self.told(turns("01", "ns"), 2, LINES, APART, turns("10", "sn"))
        self.told(turns("01", "ns"), 2, LINES, APART, turns("01", "ns"))
        self.told(turns("0011", "nnss"), 6, LINES, APART, turns("1010", "snsn"))

    def test_turns_with_a_cell_in_common(self):
        # The second goes where the first was.
        self.told(turns("01", "en"), 1, SQUARE, FOLLOW, turns("01", "en"))
        # Both tread on the corner's cell, one behind the other.
        self.told(turns("0011", "snwe"), 1, CORNER, ENDS, turns("0011", "snwe"))
        self.told(turns("1100", "wesn"), 1, CORNER, ENDS, turns("1100", "wesn"))

    def test_round_the_square(self):
        # The second follows where the first was, so each turn of the first comes ahead of its own of the second; and
        # behind the second's but one, which makes room: the first is ahead by one or two turns, three times at choice.
        took = turns("01010101", "ensewsnw")
        self.told(turns("00101011", "esnwensw"), 8, SQUARE, FOLLOW, took)
        # From across, both go one way round: each turn comes behind the other's one ahead, but not behind this one's.
        across = (((0, 0), LYING), ((1, 1), LYING))
        self.told(turns("01", "ns"), 2, SQUARE, across, turns("10", "sn"))
        self.told(turns("0101", "nsew"), 4, SQUARE, across, turns("1010", "snwe"))

    def test_far_too_many_to_list(self):
        north = "nnnsssnnnsss"
        south = "sssnnnsssnnn"
        took = turns("01" * 12, "".join(a + b for a, b in zip(north, south)))
        least = turns("0" * 12 + "1" * 12, north + south)
        self.told(least, math.comb(24, 12), LINES, APART, took)
        self.told(least, math.comb(24, 12), LINES, APART, turns("1" * 12 + "0" * 12, south + north))
        for many in range(25):
            up, down = (north * 2)[:many], (south * 2)[:24 - many]
            wished = turns("0" * many + "1" * (24 - many), up + down)
            behind = turns("1" * (24 - many) + "0" * many, down + up)
            self.told(wished, math.comb(24, many), LINES, APART, behind)
            self.assertIs(come_of(LINES, APART, wished, behind), True)

    def test_each_few_turns_by_lists(self):
        counts = set()
        for floor, most in ((CORNER, 4), (SQUARE, 4), (((1, 1), (2, 1), (3, 1), (3, 2)), 4)):
            for pair in list(pairs(floor))[::3]:
                for took in two.turns_up_to(most):
                    if two.is_let(floor, pair, took):
                        counts.add(len(self.by_lists(floor, pair, took)))
        self.assertLessEqual({1, 2, 3, 4, 6}, counts)

    def test_more_turns_by_lists(self):
        chance = random.Random(71)
        counts = set()
        for floor in FLOORS:
            for pair in list(pairs(floor))[::5]:
                for most in (6, 9, 10):
                    counts.add(len(self.by_lists(floor, pair, two.let_turns(chance, floor, pair, most))))
        self.assertGreater(max(counts), 100)

    def test_twenty_four_turns_in_little_room(self):
        chance = random.Random(24)
        for floor in (CORNER, SQUARE, samples.LINE):
            for pair in pairs(floor):
                took = two.let_turns(chance, floor, pair, 24)
                if how_many(floor, pair, took) < 2000:
                    self.by_lists(floor, pair, took)

    def test_the_least_is_let_and_does_the_same(self):
        chance = random.Random(5)
        for floor in FLOORS:
            for pair in list(pairs(floor))[::4]:
                took = two.let_turns(chance, floor, pair, 24)
                least = least_turns(floor, pair, took)
                self.assertLessEqual(least, took)
                self.assertEqual(pair_behind(floor, pair, least), pair_behind(floor, pair, took))
                self.assertEqual(exchange_two(floor, pair, least), exchange_two(floor, pair, took))
                self.assertEqual(least_turns(floor, pair, least), least)
                self.assertEqual(how_many(floor, pair, least), how_many(floor, pair, took))
                self.assertIs(come_of(floor, pair, took, least), True)

    def test_refusals(self):
        for ask in OF_TURNS:
            for thing in samples.floors_wrong():
                refused(self, NoFloor, ask, thing, ENDS, ())
            for thing in samples.pairs_wrong(SQUARE):
                refused(self, NoPair, ask, SQUARE, thing, ())
            for thing in samples.turns_wrong():
                refused(self, NoTurns, ask, CORNER, ENDS, thing)
            for took in (turns("0", "n"), turns("01", "sw"), turns("00", "se"), turns("0" * 24, "sn" * 11 + "ss")):
                refused(self, NotLet, ask, CORNER, ENDS, took)


class ComeOf(unittest.TestCase):
    def told(self, wished, floor, pair, one, other):
        self.assertIs(come_of(floor, pair, one, other), wished, (floor, pair, one, other))
        self.assertIs(come_of(floor, pair, other, one), wished, (floor, pair, one, other))

    def test_themselves(self):
        for took in ((), turns("0", "s"), turns("0011", "snwe"), turns("0" * 24, "sn" * 12)):
            self.told(True, CORNER, ENDS, took, took)

    def test_turns_that_do(self):
        self.told(True, LINES, APART, turns("01", "ns"), turns("10", "sn"))
        self.told(True, LINES, APART, turns("0011", "nnss"), turns("1100", "ssnn"))

    def test_turns_that_do_not(self):
        # Both orders are let, but both tread on the corner's cell.
        self.told(False, CORNER, ENDS, turns("0011", "snwe"), turns("1100", "wesn"))
        self.told(False, LINES, APART, turns("01", "ns"), turns("00", "ns"))
        self.told(False, LINES, APART, turns("0", "n"), turns("1", "s"))

    def test_turns_that_do_the_same_but_do_not_come_of_one_another(self):
        there = turns("0000", "snsn")
        self.assertEqual(exchange_two(CORNER, ENDS, there), tuple(range(15)))
        self.told(False, CORNER, ENDS, there, turns("1111", "wewe"))

    def test_unlike_numbers(self):
        self.told(False, LINES, APART, (), turns("0", "n"))
        self.told(False, LINES, APART, turns("01", "ns"), turns("011", "nss"))
        self.told(False, LINES, APART, turns("0", "n"), turns("000", "nsn"))

    def test_each_two_few_turns_by_lists(self):
        yes = 0
        across = (((0, 0), LYING), ((1, 1), LYING))
        for floor, pair, most in ((CORNER, ENDS, 4), (SQUARE, FOLLOW, 3), (SQUARE, across, 3)):
            let = [took for took in two.turns_up_to(most) if two.is_let(floor, pair, took)]
            for one in let:
                lot = two.all_of(pair, one)
                for other in let:
                    self.assertIs(come_of(floor, pair, one, other), other in lot, (floor, pair, one, other))
                    yes += other in lot and other != one
        self.assertGreater(yes, 50)

    def test_not_let_of_each(self):
        good = turns("0", "s")
        for took in (turns("0", "n"), turns("01", "sw"), turns("00", "se")):
            refused(self, NotLet, come_of, CORNER, ENDS, took, good)
            refused(self, NotLet, come_of, CORNER, ENDS, good, took)
            refused(self, NotLet, come_of, CORNER, ENDS, took, took)
            refused(self, NotLet, come_of, CORNER, ENDS, (), took)

    def test_refusals(self):
        for thing in samples.floors_wrong():
            refused(self, NoFloor, come_of, thing, ENDS, (), ())
        for thing in samples.pairs_wrong(SQUARE):
            refused(self, NoPair, come_of, SQUARE, thing, (), ())
        for thing in samples.turns_wrong():
            refused(self, NoTurns, come_of, CORNER, ENDS, thing, ())
            refused(self, NoTurns, come_of, CORNER, ENDS, (), thing)
            refused(self, NoTurns, come_of, CORNER, ENDS, turns("0", "n"), thing)


if __name__ == "__main__":
    unittest.main()
