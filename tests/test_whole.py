"""Promises 2, 3 and 5 over the whole program."""

import copy
import itertools
import random
import unittest

from tests import model, samples, two
from tumblemarks import errors
from tumblemarks.again import exchange_far, how_often, round_of, stand_far
from tumblemarks.desk import Desk
from tumblemarks.floors import first_off, stand_behind
from tumblemarks.looks import looked, seen_spots, shows_looked
from tumblemarks.marks import exchange, is_even, marks_behind, rounds
from tumblemarks.mending import left_out, mends
from tumblemarks.pairs import exchange_two, first_stop, pair_behind
from tumblemarks.rows import apart, does_undo, shortest, undoing
from tumblemarks.table import Table
from tumblemarks.texts import floor_text, marks_text
from tumblemarks.ways import way
from tumblemarks.wishes import bring, shows_bring

LYING = samples.LYING
CORNER = samples.CORNER
SQUARE = samples.SQUARE
WALKS = samples.long_walks(80)
ROUNDS = samples.round_walks(20)


def some_marks(floor):
    chance = random.Random(len(floor))
    many = 6 + len(floor)
    return [
        (0,) * many, (999,) * many, samples.marks_plain(floor), tuple(range(many)),
        tuple(chance.randint(0, 2) for _ in range(many)), tuple(chance.randint(0, 999) for _ in range(many)),
    ]


class MarksNeverSteer(unittest.TestCase):
    def test_one_exchange_whatever_the_marks_are(self):
        for floor, cell, lying, row in WALKS:
            exchanged = exchange(floor, (cell, lying), row)
            for marks in some_marks(floor):
                behind = marks_behind(floor, (cell, lying), row, marks)
                self.assertEqual(tuple(behind[to] for to in exchanged), marks)
            self.assertEqual(is_even(floor, (cell, lying), row), len(row) % 2 == 0)

    def test_a_table_lets_the_same_and_leads_to_the_same(self):
        for floor, cell, lying, row in WALKS:
            tables = [Table(floor, cell, lying, marks) for marks in some_marks(floor)]
            for at, letter in enumerate(row):
                for one in tables:
                    one.mark(at % (6 + len(floor)), at)
                    one.roll(letter)
                self.assertEqual(len({one.stand() for one in tables}), 1)
            self.assertEqual({one.stand() for one in tables}, {stand_behind(floor, cell, lying, row)})
            for letter in "nesw":
                told = {self.let(one, letter) for one in tables}
                self.assertEqual(told, {model.step(tables[0].stand()[0], letter) in floor})

    def let(self, one, letter):
        try:
            one.twin().roll(letter)
        except errors.NotLet:
            return False
        return True

    def test_a_table_does_as_a_row_does(self):
        for floor, cell, lying, row in WALKS:
            marks = samples.marks_plain(floor)
            one, other = Table(floor, cell, lying, marks), Table(floor, cell, lying, marks)
            one.play(row)
            for letter in row:
                other.roll(letter)
            self.assertTrue(one == other)
            self.assertEqual(one.marks(), marks_behind(floor, (cell, lying), row, marks))
            self.assertEqual((one.rolls(), other.rolls()), (len(row), len(row)))

    def test_behind_a_row_the_cube_is_on_a_cell_of_the_floor(self):
        for floor, cell, lying, row in WALKS:
            for many in range(len(row) + 1):
                self.assertIn(stand_behind(floor, cell, lying, row[:many])[0], floor)


class PlayedForEver(unittest.TestCase):
    def test_all_comes_again(self):
        for floor, cell, lying, row in ROUNDS:
            stand = (cell, lying)
            self.assertIs(how_often(floor, cell, row), None)
            many = round_of(floor, stand, row)
            own = tuple(range(6 + len(floor)))
            for times in (many, 2 * many, many * (10 ** 12 // many)):
                self.assertEqual(stand_far(floor, stand, row, times), stand)
                self.assertEqual(exchange_far(floor, stand, row, times), own)
            for times in range(1, many):
                told = (stand_far(floor, stand, row, times), exchange_far(floor, stand, row, times))
                self.assertNotEqual(told, (stand, own))

    def test_a_table_comes_again(self):
        for floor, cell, lying, row in ROUNDS:
            one = Table(floor, cell, lying, samples.marks_plain(floor))
            many = round_of(floor, (cell, lying), row)
            for _ in range(many - 1):
                one.play(row)
                self.assertFalse((one.stand(), one.marks()) == ((cell, lying), samples.marks_plain(floor)))
            one.play(row)
            self.assertTrue(one == Table(floor, cell, lying, samples.marks_plain(floor)))
            self.assertEqual(one.rolls(), many * len(row))

    def test_a_desk_tells_the_round_that_brings_all_back(self):
        for floor, _, _, row in ROUNDS:
            one = Desk()
            one.say(floor_text(floor))
            if row and first_off(floor, floor[0], row) is None:
                many = one.say("round " + row)
                if many != "none":
                    one.say(f"play {row} {many}")
                    self.assertEqual(one.say("marks"), marks_text(floor, tuple(range(6 + len(floor)))))
                    self.assertEqual(one.say("stand"), f"{floor[0][0]},{floor[0][1]} 012")

    def test_a_row_that_ends_elsewhere_comes_to_an_end(self):
        for floor, cell, lying, row in WALKS:
            many = how_often(floor, cell, row)
            if stand_behind(floor, cell, lying, row)[0] != cell:
                self.assertIn(many, (1, 2, 3))


class Undone(unittest.TestCase):
    def test_whatever_was_rolled_can_be_undone_by_rolls(self):
        for floor, cell, lying, row in WALKS:
            one = Table(floor, cell, lying, samples.marks_plain(floor))
            one.play(row)
            told = undoing(floor, (cell, lying), row)
            one.play(told)
            self.assertTrue(one == Table(floor, cell, lying, samples.marks_plain(floor)))
            self.assertEqual(apart(floor, (cell, lying), row + told, ""), ("same",))
            self.assertEqual(shortest(floor, (cell, lying), row + told), "")

    def test_roll_by_roll(self):
        for floor, cell, lying, row in WALKS[:30]:
            one = Table(floor, cell, lying, samples.marks_plain(floor))
            stands = [one.stand()]
            for letter in row:
                one.roll(letter)
                stands.append(one.stand())
            for stand, letter in zip(stands[-2::-1], row[::-1]):
                one.play(undoing(floor, stand, letter))
                self.assertEqual(one.stand(), stand)
            self.assertTrue(one == Table(floor, cell, lying, samples.marks_plain(floor)))

    def test_two_cubes(self):
        chance = random.Random(6)
        for floor in two.FLOORS:
            for pair in list(two.pairs(floor))[::3]:
                took = two.let_turns(chance, floor, pair, 6)
                for cube, letter in took[::-1]:
                    back = samples.BACK[letter]
                    took += ((cube, back), (cube, letter), (cube, back))
                self.assertIs(first_stop(floor, pair, took), None)
                self.assertEqual(pair_behind(floor, pair, took), pair)
                self.assertEqual(exchange_two(floor, pair, took), tuple(range(12 + len(floor))))

    def test_where_a_row_leads_another_one_leads_back(self):
        for floor, cell, lying, row in WALKS:
            there = stand_behind(floor, cell, lying, row)
            self.assertIsNot(way(floor, (cell, lying), there), None)
            self.assertIsNot(way(floor, there, (cell, lying)), None)


class JustOne(unittest.TestCase):
    def test_what_is_told_is_shown_and_the_other_is_not(self):
        for spot, to in itertools.product(range(10), repeat=2):
            stand = ((0, 0), LYING)
            told = bring(SQUARE, stand, spot, to)
            self.assertIs(shows_bring(SQUARE, stand, spot, to, told), True)
            other = ("never", told[1]) if told[0] == "row" else ("row", "")
            self.assertIs(shows_bring(SQUARE, stand, spot, to, other), False)

    def test_looks_clash_or_do_not(self):
        for marks in itertools.product((1, 2), repeat=3):
            looks = tuple((beat, (0, 0), mark) for beat, mark in zip((0, 1, 4), marks))
            told = looked(SQUARE, ((0, 0), LYING), "nsns", looks)
            self.assertIs(shows_looked(SQUARE, ((0, 0), LYING), "nsns", looks, told), True)
            shown = [
                shows_looked(SQUARE, ((0, 0), LYING), "nsns", looks, ("clash", *numbers))
                for numbers in itertools.combinations(range(3), 2)
            ]
            self.assertIs(any(shown), told[0] == "clash")

    def test_the_same_is_parted_by_nothing(self):
        for one, other in itertools.product(samples.rows_up_to(3), repeat=2):
            stand = ((0, 0), LYING)
            if first_off(SQUARE, (0, 0), one) is None and first_off(SQUARE, (0, 0), other) is None:
                alike = stand_behind(SQUARE, *stand, one) == stand_behind(SQUARE, *stand, other)
                alike = alike and exchange(SQUARE, stand, one) == exchange(SQUARE, stand, other)
                self.assertIs(apart(SQUARE, stand, one, other) == ("same",), alike)

    def test_a_row_is_let_or_mended(self):
        for row in samples.rows_up_to(4):
            let = first_off(SQUARE, (0, 0), row) is None
            self.assertIs(mends(SQUARE, (0, 0), row, ()), let)
            self.assertIs(left_out(SQUARE, (0, 0), row) == (), let)


class TablesAndDesks(unittest.TestCase):
    """What was told, handed in at each deed, is taken or refused by a class that the interface names."""

    KINDS = {
        "roll": ("NoRoll", "NotLet"), "play": ("NoRow", "NoTimes", "NotLet"), "mark": ("NoSpot", "NoMark"),
        "trade": ("NoSpot",), "at": ("NoCell",),
    }

    def told(self):
        stand = ((0, 0), LYING)
        one = Table(CORNER, *stand, samples.marks_plain(CORNER))
        one.play("nsew", 10 ** 12)
        return samples.odd_things() + [
            one, one.twin(), one.stand(), one.marks(), one.rolls(), repr(one), len(one), CORNER, stand,
            bring(CORNER, stand, 2, 0), bring(CORNER, stand, 1, 7)[1], undoing(CORNER, stand, "nsew" * 15),
            rounds(CORNER, stand, "nse"), apart(CORNER, stand, "ns", "ew"), seen_spots(CORNER, stand, "ns", CORNER),
            left_out(CORNER, (0, 0), "nnn"), floor_text(CORNER), "stand", "undo", "n", "ns", (0, 1), 3, 10 ** 12,
        ]

    def test_tables(self):
        for thing in self.told():
            for deed in ("roll", "play", "at"):
                self.handed(deed, (thing,))
            self.handed("play", ("ns", thing))
            for deed in ("play", "mark", "trade"):
                for other in (3, None):
                    self.handed(deed, (thing, other))
                    self.handed(deed, (other, thing))

    def handed(self, deed, things):
        one = Table(CORNER, (0, 0), LYING, samples.marks_plain(CORNER))
        given = copy.deepcopy(things)
        try:
            getattr(one, deed)(*things)
        except errors.TumbleError as error:
            self.assertIn(type(error).__name__, self.KINDS[deed])
            self.assertEqual((len(one), one.rolls()), (0, 0))
        self.assertEqual(repr(things), repr(given))

    def test_desks(self):
        for thing in self.told():
            one = Desk()
            one.say(floor_text(CORNER))
            try:
                self.assertIs(type(one.say(thing)), str)
            except (errors.NoLine, errors.NoDeed):
                pass

    def test_the_same_asked_again(self):
        for floor, cell, lying, row in WALKS[:20]:
            one = Table(floor, cell, lying, samples.marks_plain(floor))
            one.play(row)
            told = [(one.stand(), one.marks(), one.rolls(), len(one), repr(one), one.at(cell)) for _ in range(3)]
            self.assertEqual(told, told[:1] * 3)

    def test_a_table_does_not_hang_on_what_was_told(self):
        one = Table(CORNER, (0, 0), LYING, samples.marks_plain(CORNER))
        stand, marks = one.stand(), one.marks()
        one.roll("n")
        self.assertEqual((stand, marks), (((0, 0), LYING), samples.marks_plain(CORNER)))

    def test_does_undo_of_a_told_row_of_any_length(self):
        row = "nsew" * 15
        stand = ((0, 0), LYING)
        told = undoing(CORNER, stand, undoing(CORNER, stand, row))
        self.assertIs(does_undo(CORNER, stand, told, undoing(CORNER, stand, told)), True)


if __name__ == "__main__":
    unittest.main()
