"""Promise 90, and 5 of it: floors turned to the left, and mirrored."""

import itertools
import random
import unittest

from tests import model, samples, two
from tests.refusal import refused
from tumblemarks.again import exchange_far, how_often, round_of, stand_far
from tumblemarks.errors import NoFloor, NoRow, NoStand, NoWord
from tumblemarks.floors import first_off, is_floor, is_lying, stand_behind
from tumblemarks.looks import looked, seen_first, seen_spots
from tumblemarks.marks import exchange, marks_behind, order
from tumblemarks.mending import cells_more, left_out, mends
from tumblemarks.pairs import exchange_two, first_stop, pair_behind
from tumblemarks.rows import apart, does_undo, shortest
from tumblemarks.traces import how_many
from tumblemarks.turned import turned_floor, turned_row, turned_spots, turned_stand
from tumblemarks.ways import way
from tumblemarks.wishes import bring, may_come, shows_bring, still

LYING = samples.LYING
CORNER = samples.CORNER
SQUARE = samples.SQUARE
LEFT, MIRROR = WORDS = ("left", "mirror")
CELLS = tuple((column, line) for column in range(4) for line in range(4))
SPOTS = {
    LEFT: {(column, line): (3 - line, column) for column, line in CELLS},
    MIRROR: {(column, line): (3 - column, line) for column, line in CELLS},
}
WALKS = [(floor, (cell, lying), row) for floor, cell, lying, row in samples.long_walks(60)]
ROUNDS = [(floor, (cell, lying), row) for floor, cell, lying, row in samples.round_walks(20)]


def words_wrong():
    return samples.odd_things() + [
        "", "Left", "LEFT", "left ", " left", "right", "l", "lef", "mirrored", "Mirror", "mirro", "leftmirror",
        ("left",), ["left"], {"left": "mirror"}, "left\n", "left mirror", 0, 1,
    ]


def moved(word, floor, told):
    """A tuple of things for each spot, as the turned floor has it."""
    held = [None] * len(told)
    for spot, to in enumerate(turned_spots(floor, word)):
        held[to] = told[spot]
    return tuple(held)


def moved_exchange(word, floor, exchanged):
    spots = turned_spots(floor, word)
    return moved(word, floor, tuple(spots[to] for to in exchanged))


def moved_lot(word, floor, spots):
    turned = turned_spots(floor, word)
    return tuple(sorted(turned[spot] for spot in spots))


def moved_cells(word, cells):
    return tuple(sorted(SPOTS[word][cell] for cell in cells))


def turned_walk(word, floor, stand, row):
    return turned_floor(floor, word), turned_stand(floor, word, stand), turned_row(word, row)


class Floors(unittest.TestCase):
    def told(self, wished, floor, word):
        told = turned_floor(floor, word)
        self.assertEqual(told, wished, (floor, word))
        self.assertIs(type(told), tuple)
        self.assertIs(is_floor(told), True)

    def test_each_cell_alone(self):
        for column, line in CELLS:
            self.told(((3 - line, column),), ((column, line),), LEFT)
            self.told(((3 - column, line),), ((column, line),), MIRROR)

    def test_by_hand(self):
        self.told(((2, 0), (3, 0), (3, 1)), CORNER, LEFT)
        self.told(((2, 0), (3, 0), (3, 1)), CORNER, MIRROR)
        self.told(((1, 0), (1, 1), (1, 2), (1, 3)), samples.LINE, LEFT)
        self.told(samples.LINE, samples.LINE, MIRROR)
        self.told(((0, 3), (1, 3), (2, 3), (3, 3)), samples.POST, LEFT)
        self.told(((0, 0), (0, 1), (0, 2), (0, 3)), samples.POST, MIRROR)

    def test_all_floors_of_three_cells_are_rising(self):
        for floor in itertools.combinations(CELLS, 3):
            for word in WORDS:
                self.told(tuple(sorted(SPOTS[word][cell] for cell in floor)), floor, word)

    def test_refusals(self):
        for word in WORDS + ("right",):
            for thing in samples.floors_wrong():
                refused(self, NoFloor, turned_floor, thing, word)
                refused(self, NoFloor, turned_spots, thing, word)
                refused(self, NoFloor, turned_stand, thing, word, ((0, 0), LYING))
        for thing in words_wrong():
            refused(self, NoWord, turned_floor, SQUARE, thing)
            refused(self, NoWord, turned_spots, SQUARE, thing)
            refused(self, NoWord, turned_stand, SQUARE, thing, ((0, 0), LYING))
            refused(self, NoWord, turned_stand, SQUARE, thing, None)
            refused(self, NoWord, turned_row, thing, "nesw")
            refused(self, NoWord, turned_row, thing, None)
        for word in WORDS:
            for thing in samples.stands_wrong(SQUARE):
                refused(self, NoStand, turned_stand, SQUARE, word, thing)
            for thing in samples.rows_wrong():
                refused(self, NoRow, turned_row, word, thing)


class Stands(unittest.TestCase):
    def told(self, wished, floor, word, stand):
        told = turned_stand(floor, word, stand)
        self.assertEqual(told, wished, (floor, word, stand))
        self.assertEqual([type(told), type(told[0]), type(told[1])], [tuple, tuple, tuple])
        self.assertIs(is_lying(told[1]), True)

    def test_by_hand(self):
        self.told(((3, 0), (0, 2, 4)), SQUARE, LEFT, ((0, 0), LYING))
        self.told(((3, 1), (1, 2, 0)), SQUARE, LEFT, ((1, 0), (1, 5, 2)))
        self.told(((3, 0), LYING), SQUARE, MIRROR, ((0, 0), LYING))
        self.told(((2, 0), (2, 0, 1)), SQUARE, MIRROR, ((1, 0), (3, 0, 4)))
        self.told(((3, 1), (4, 2, 5)), SQUARE, MIRROR, ((0, 1), (4, 3, 0)))

    def test_each_lying_by_the_sides_of_the_cube(self):
        for how in model.lyings():
            of = model.sides(how)
            self.told(((3, 0), (of["low"], of["east"], of["south"])), SQUARE, LEFT, ((0, 0), how))
            names = [{2: 3, 3: 2}.get(face, face) for face in (of["low"], of["north"], of["west"])]
            self.told(((3, 0), tuple(names)), SQUARE, MIRROR, ((0, 0), how))

    def test_unlike_stands_stay_unlike(self):
        for word in WORDS:
            for floor in samples.FLOORS:
                told = {turned_stand(floor, word, stand) for stand in samples.stands(floor)}
                self.assertEqual(told, set(samples.stands(turned_floor(floor, word))))


class Rows(unittest.TestCase):
    def test_each_letter(self):
        self.assertEqual([turned_row(LEFT, letter) for letter in "nesw"], ["w", "n", "e", "s"])
        self.assertEqual([turned_row(MIRROR, letter) for letter in "nesw"], ["n", "w", "s", "e"])

    def test_rows(self):
        self.assertEqual(turned_row(LEFT, "nnesw"), "wwnes")
        self.assertEqual(turned_row(MIRROR, "nnesw"), "nnwse")
        for word in WORDS:
            self.assertEqual(turned_row(word, ""), "")
            self.assertEqual(len(turned_row(word, "nesw" * 45)), 180)


class Spots(unittest.TestCase):
    def test_by_hand(self):
        self.assertEqual(turned_spots(CORNER, LEFT), (0, 1, 2, 3, 4, 5, 7, 6, 8))
        self.assertEqual(turned_spots(CORNER, MIRROR), (0, 1, 3, 2, 4, 5, 7, 8, 6))
        self.assertEqual(turned_spots(samples.DOT, LEFT), (0, 1, 2, 3, 4, 5, 6))
        self.assertEqual(turned_spots(samples.DOT, MIRROR), (0, 1, 3, 2, 4, 5, 6))

    def test_each_cell_keeps_its_mark(self):
        for word in WORDS:
            for floor in samples.FLOORS:
                told = turned_spots(floor, word)
                self.assertIs(type(told), tuple)
                self.assertEqual(sorted(told), list(range(6 + len(floor))))
                for at, cell in enumerate(floor):
                    self.assertEqual(turned_floor(floor, word)[told[6 + at] - 6], SPOTS[word][cell])


class AsItWas(unittest.TestCase):
    def turned_often(self, word, times, floor, stand, row):
        spots = tuple(range(6 + len(floor)))
        first = (floor, stand, row, spots)
        for _ in range(times):
            told = turned_spots(floor, word)
            spots = tuple(told[spot] for spot in spots)
            floor, stand, row = turned_walk(word, floor, stand, row)
        return (floor, stand, row, spots) == first

    def test_four_times_to_the_left_and_twice_mirrored(self):
        for floor, stand, row in WALKS + [(SQUARE, ((0, 1), how), "nesw") for how in model.lyings()]:
            self.assertTrue(self.turned_often(LEFT, 4, floor, stand, row))
            self.assertTrue(self.turned_often(MIRROR, 2, floor, stand, row))

    def test_not_sooner(self):
        for many in (1, 2, 3):
            self.assertFalse(self.turned_often(LEFT, many, CORNER, ((0, 0), LYING), "ne"))
        self.assertFalse(self.turned_often(MIRROR, 1, CORNER, ((0, 0), LYING), "ne"))


class WhatIsTold(unittest.TestCase):
    """What is told of a turned floor is what is told, turned; the least of several is left aside."""

    def test_rows_and_marks(self):
        for word in WORDS:
            for floor, stand, row in WALKS:
                there, start, turned = turned_walk(word, floor, stand, row)
                for letters in ("", "n", "ee"):
                    off = first_off(floor, stand[0], row + letters)
                    self.assertEqual(first_off(there, start[0], turned + turned_row(word, letters)), off)
                behind = stand_behind(floor, *stand, row)
                self.assertEqual(stand_behind(there, *start, turned), turned_stand(floor, word, behind))
                marks = samples.marks_plain(floor)
                wished = moved(word, floor, marks_behind(floor, stand, row, marks))
                self.assertEqual(marks_behind(there, start, turned, moved(word, floor, marks)), wished)
                wished = moved_exchange(word, floor, exchange(floor, stand, row))
                self.assertEqual(exchange(there, start, turned), wished)
                self.assertEqual(order(there, start, turned), order(floor, stand, row))

    def test_ways(self):
        for word in WORDS:
            for floor in samples.FLOORS:
                one = (floor[0], LYING)
                for other in samples.stands(floor)[::5]:
                    told = way(floor, one, other)
                    turned = [turned_stand(floor, word, stand) for stand in (one, other)]
                    there = way(turned_floor(floor, word), *turned)
                    self.assertEqual(there is None, told is None)
                    if told is not None:
                        self.assertEqual(len(there), len(told))

    def test_plays(self):
        for word in WORDS:
            for floor, stand, row in ROUNDS:
                walk = turned_walk(word, floor, stand, row)
                self.assertIs(how_often(walk[0], walk[1][0], walk[2]), None)
                self.assertEqual(round_of(*walk), round_of(floor, stand, row))
                for times in (0, 1, 7, 1000000000000):
                    wished = turned_stand(floor, word, stand_far(floor, stand, row, times))
                    self.assertEqual(stand_far(*walk, times), wished)
                    wished = moved_exchange(word, floor, exchange_far(floor, stand, row, times))
                    self.assertEqual(exchange_far(*walk, times), wished)
            for floor, stand, row in WALKS:
                walk = turned_walk(word, floor, stand, row)
                self.assertEqual(how_often(walk[0], walk[1][0], walk[2]), how_often(floor, stand[0], row))

    def test_wishes(self):
        for word in WORDS:
            for floor in (samples.DOT, samples.LINE, CORNER, SQUARE, samples.SPREAD):
                stand = (floor[-1], (2, 0, 1))
                there, start, _ = turned_walk(word, floor, stand, "")
                spots = turned_spots(floor, word)
                self.assertEqual(still(there, start), moved_lot(word, floor, still(floor, stand)))
                for spot in range(len(spots)):
                    wished = moved_lot(word, floor, may_come(floor, stand, spot))
                    self.assertEqual(may_come(there, start, spots[spot]), wished)
                    for to in range(len(spots)):
                        self.brought(word, floor, stand, spot, to)

    def brought(self, word, floor, stand, spot, to):
        there, start, _ = turned_walk(word, floor, stand, "")
        spots = turned_spots(floor, word)
        kind, told = bring(floor, stand, spot, to)
        other, turned = bring(there, start, spots[spot], spots[to])
        self.assertEqual(other, kind)
        if kind == "row":
            self.assertEqual(len(turned), len(told))
            thing = ("row", turned_row(word, told))
        else:
            lot = [turned_stand(floor, word, here[:2]) + (spots[here[2]],) for here in told]
            thing = ("never", tuple(sorted(lot)))
            self.assertEqual(thing[1], turned)
        self.assertIs(shows_bring(there, start, spots[spot], spots[to], thing), True)

    def test_looks(self):
        chance = random.Random(90)
        kinds = set()
        for word in WORDS:
            for floor, stand, row in WALKS:
                walk = turned_walk(word, floor, stand, row)
                many = chance.randint(0, 6)
                looks = tuple(
                    (chance.randint(0, len(row)), chance.choice(floor), chance.randint(0, 1)) for _ in range(many)
                )
                told = looked(floor, stand, row, looks)
                turned = looked(*walk, tuple((beat, SPOTS[word][cell], mark) for beat, cell, mark in looks))
                kinds.add(told[0])
                if told[0] == "first":
                    told = ("first", moved(word, floor, told[1]))
                self.assertEqual(turned, told)
        self.assertEqual(kinds, {"first", "clash"})

    def test_seen(self):
        for word in WORDS:
            for floor, stand, row in ROUNDS[::3]:
                walk = turned_walk(word, floor, stand, row)
                spots = turned_spots(floor, word)
                for cells in ((), floor[:1], floor[::2], floor):
                    asked = (*walk, moved_cells(word, cells))
                    wished = moved_lot(word, floor, seen_spots(floor, stand, row, cells))
                    self.assertEqual(seen_spots(*asked), wished)
                    for spot in range(len(spots)):
                        wished = seen_first(floor, stand, row, cells, spot)
                        self.assertEqual(seen_first(*asked, spots[spot]), wished)

    def test_rows_that_do_the_same_or_undo(self):
        for word in WORDS:
            for one, other in itertools.product(samples.rows_up_to(3), repeat=2):
                told = apart(SQUARE, ((0, 0), LYING), one, other)
                there, start, _ = turned_walk(word, SQUARE, ((0, 0), LYING), "")
                turned = apart(there, start, turned_row(word, one), turned_row(word, other))
                self.assertEqual(turned[0], told[0])
                if told[0] == "let":
                    self.assertEqual(turned, told)
                if told[0] == "stands":
                    wished = tuple(turned_stand(SQUARE, word, stand) for stand in told[1:])
                    self.assertEqual(turned[1:], wished)
                if told[0] != "let":
                    wished = does_undo(SQUARE, ((0, 0), LYING), one, other)
                    rows = (turned_row(word, one), turned_row(word, other))
                    self.assertIs(does_undo(there, start, *rows), wished)

    def test_shortest(self):
        for word in WORDS:
            for floor, stand, row in WALKS:
                for many in (4, 6, 9):
                    told = shortest(floor, stand, row[:many])
                    turned = shortest(*turned_walk(word, floor, stand, row[:many]))
                    self.assertEqual(turned is None, told is None)
                    if told is not None:
                        self.assertEqual(len(turned), len(told))

    def test_two_cubes(self):
        chance = random.Random(91)
        for word in WORDS:
            for floor in two.FLOORS:
                for pair in list(two.pairs(floor))[::4]:
                    took = two.let_turns(chance, floor, pair, 12)
                    self.two_turned(word, floor, pair, took)

    def two_turned(self, word, floor, pair, took):
        there = turned_floor(floor, word)
        start = tuple(turned_stand(floor, word, stand) for stand in pair)
        turned = tuple((cube, turned_row(word, letter)) for cube, letter in took)
        for letter in "nesw":
            wished = first_stop(floor, pair, took + ((0, letter),))
            self.assertEqual(first_stop(there, start, turned + ((0, turned_row(word, letter)),)), wished)
        wished = tuple(turned_stand(floor, word, stand) for stand in pair_behind(floor, pair, took))
        self.assertEqual(pair_behind(there, start, turned), wished)
        one = turned_spots(floor, word)
        spots = one[:6] + tuple(spot + 6 for spot in one)
        wished = [None] * len(spots)
        for spot, to in enumerate(exchange_two(floor, pair, took)):
            wished[spots[spot]] = spots[to]
        self.assertEqual(exchange_two(there, start, turned), tuple(wished))
        self.assertEqual(how_many(there, start, turned), how_many(floor, pair, took))

    def test_mending(self):
        chance = random.Random(92)
        for word in WORDS:
            for floor in samples.FLOORS:
                for cell in floor:
                    row = "".join(chance.choice("nesw") for _ in range(chance.randint(0, 20)))
                    there, (start, _), turned = turned_walk(word, floor, (cell, LYING), row)
                    # Places are what they were, and so is the least of them.
                    self.assertEqual(left_out(there, start, turned), left_out(floor, cell, row))
                    for thing in ((), (0,), (1, 3), left_out(floor, cell, row)):
                        self.assertIs(mends(there, start, turned, thing), mends(floor, cell, row, thing))
                    wished = moved_cells(word, cells_more(floor, cell, row))
                    self.assertEqual(cells_more(there, start, turned), wished)


if __name__ == "__main__":
    unittest.main()
