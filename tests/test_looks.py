"""Promise 50, and 5 of it: what stood where at first, by what was seen."""

import random
import unittest

from tests import model, samples
from tests.refusal import refused
from tumblemarks.errors import NoFloor, NoLooks, NoRow, NoStand, NotLet
from tumblemarks.looks import looked, shows_looked
from tumblemarks.marks import marks_behind

LYING = samples.LYING
CORNER = samples.CORNER
SQUARE = samples.SQUARE
HOME = ((0, 0), LYING)
NOTHING = (None,) * 9
# At the corner, by "nse": the marks of the spots 7, then 1, at the north; 8, then 2, at the east; 6, then 0, at home.
SOME = ((0, (0, 1), 7), (1, (0, 1), 9), (3, (1, 0), 4))
SOME_FIRST = ("first", (None, 9, 4, None, None, None, None, 7, None))
BAD = ((1, (0, 1), 5), (0, (1, 0), 8), (2, (1, 0), 9), (3, (0, 1), 6), (2, (0, 1), 6))


def true_looks(chance, walk, marks, many):
    """Looks that were really had."""
    floor, cell, lying, row = walk
    looks = []
    for _ in range(many):
        beat, place = chance.randint(0, len(row)), chance.randrange(len(floor))
        behind = model.play(floor, cell, lying, row[:beat], marks)[2]
        looks.append((beat, floor[place], behind[6 + place]))
    return tuple(looks)


def lots_of_looks(many):
    """Tuples (floor, stand, row, looks), the same at each call; about half of the looks clash."""
    chance = random.Random(50)
    lots = []
    for at, walk in enumerate(samples.long_walks(many)):
        marks = tuple(chance.randint(0, 999) for _ in range(6 + len(walk[0])))
        looks = list(true_looks(chance, walk, marks, chance.randint(0, 12)))
        for place in range(len(looks)):
            if at % 2 and chance.random() < 0.3:
                looks[place] = looks[place][:2] + (chance.randint(0, 999),)
        lots.append((walk[0], (walk[1], walk[2]), walk[3], tuple(looks)))
    return lots


class Looked(unittest.TestCase):
    def told(self, wished, floor, stand, row, looks):
        told = looked(floor, stand, row, looks)
        self.assertEqual(repr(told), repr(wished), (floor, stand, row, looks))
        self.assertIs(shows_looked(floor, stand, row, looks, told), True, (floor, stand, row, looks))

    def test_no_looks(self):
        for floor in samples.FLOORS:
            for stand in samples.stands(floor):
                self.told(("first", (None,) * (6 + len(floor))), floor, stand, "", ())
        self.told(("first", NOTHING), CORNER, HOME, "nse", ())

    def test_one_look(self):
        self.told(("first", NOTHING[:6] + (0, None, None)), CORNER, HOME, "nse", ((0, (0, 0), 0),))
        self.told(("first", NOTHING[:6] + (999, None, None)), CORNER, HOME, "nse", ((1, (0, 0), 999),))
        self.told(("first", (3,) + NOTHING[1:]), CORNER, HOME, "nse", ((2, (0, 0), 3),))
        self.told(("first", (3,) + NOTHING[1:]), CORNER, HOME, "nse", ((3, (0, 0), 3),))
        self.told(("first", (None, 8) + NOTHING[2:]), CORNER, HOME, "nse", ((1, (0, 1), 8),))
        self.told(("first", NOTHING[:8] + (8,)), CORNER, HOME, "nse", ((2, (1, 0), 8),))
        self.told(("first", (None, None, 8) + NOTHING[3:]), CORNER, HOME, "nse", ((3, (1, 0), 8),))

    def test_some_looks(self):
        self.told(SOME_FIRST, CORNER, HOME, "nse", SOME)
        self.told(SOME_FIRST, CORNER, HOME, "nse", SOME[::-1])

    def test_looks_that_tell_the_same(self):
        self.told(SOME_FIRST, CORNER, HOME, "nse", SOME * 4)
        looks = ((1, (0, 1), 5), (2, (0, 1), 5), (3, (0, 1), 5))
        self.told(("first", (None, 5) + NOTHING[2:]), CORNER, HOME, "nse", looks)

    def test_looks_that_clash(self):
        self.told(("clash", 0, 1), CORNER, HOME, "nse", ((0, (0, 0), 1), (0, (0, 0), 2)))
        self.told(("clash", 0, 1), CORNER, HOME, "nse", ((0, (0, 0), 1), (1, (0, 0), 0)))
        looks = ((0, (1, 0), 1), (2, (0, 0), 1), (0, (0, 0), 0), (3, (0, 0), 2))
        self.told(("clash", 1, 3), CORNER, HOME, "nse", looks)

    def test_the_least_of_several_clashes(self):
        # 0 clashes with 3 and 4, and 1 with 2: of the least first number the least second one.
        self.told(("clash", 0, 3), CORNER, HOME, "nse", BAD)
        self.told(("clash", 1, 2), CORNER, HOME, "nse", BAD[:3])
        self.told(("clash", 0, 1), CORNER, HOME, "nse", BAD[2:0:-1])
        ends = ((1, (0, 1), 5),) + ((0, (0, 0), 6),) * 9 + ((0, (0, 0), 7), (1, (0, 1), 6))
        self.told(("clash", 0, 11), CORNER, HOME, "nse", ends)
        self.told(("clash", 0, 10), CORNER, HOME, "nse", ((1, (0, 1), 5),) * 10 + ((1, (0, 1), 6),))

    def test_one_cell_of_other_beats_does_not_clash_where_the_mark_was_traded(self):
        looks = ((0, (0, 1), 1), (1, (0, 1), 2))
        self.told(("first", (None, 2) + NOTHING[2:7] + (1, None)), CORNER, HOME, "nse", looks)

    def test_twelve_looks(self):
        self.told(("first", NOTHING[:6] + (5, None, None)), CORNER, HOME, "nse", ((0, (0, 0), 5),) * 12)
        self.told(("clash", 0, 11), CORNER, HOME, "nse", ((0, (0, 0), 5),) * 11 + ((1, (0, 0), 6),))

    def test_at_each_beat_each_cell(self):
        row = "neswnesw"
        for beat in range(len(row) + 1):
            for cell in SQUARE:
                look = (beat, cell, 77)
                spot = model.named(SQUARE, HOME, row, look)
                wished = tuple(77 if at == spot else None for at in range(10))
                self.told(("first", wished), SQUARE, HOME, row, (look,))

    def test_what_was_really_seen_never_clashes(self):
        chance = random.Random(51)
        for walk in samples.long_walks(150):
            marks = tuple(chance.randint(0, 3) for _ in range(6 + len(walk[0])))
            looks = true_looks(chance, walk, marks, 12)
            word, firsts = looked(walk[0], walk[1:3], walk[3], looks)
            self.assertEqual(word, "first")
            self.assertTrue(all(told in (None, mark) for told, mark in zip(firsts, marks)))
            filled = tuple(0 if mark is None else mark for mark in firsts)
            for beat, cell, mark in looks:
                behind = marks_behind(walk[0], walk[1:3], walk[3][:beat], filled)
                self.assertEqual(behind[6 + walk[0].index(cell)], mark)

    def test_many_looks_by_the_model(self):
        words = []
        for lot in lots_of_looks(400):
            self.told(model.looked(*lot), *lot)
            words.append(looked(*lot)[0])
        self.assertGreater(words.count("clash"), 40)
        self.assertGreater(words.count("first"), 40)

    def test_rows_beyond_sixty_are_not_refused(self):
        row = "nesw" * 30
        looks = ((120, (0, 0), 1), (61, (1, 1), 2))
        self.told(model.looked(SQUARE, HOME, row, looks), SQUARE, HOME, row, looks)

    def test_no_looks_at_all(self):
        for floor, row in ((CORNER, "nse"), (CORNER, ""), (samples.DOT, ""), (samples.LINE, "ew")):
            stand = (floor[0], LYING)
            for thing in samples.looks_wrong(floor, row):
                refused(self, NoLooks, looked, floor, stand, row, thing)
                refused(self, NoLooks, shows_looked, floor, stand, row, thing, ("first", (None,) * (6 + len(floor))))

    def test_refusals(self):
        for thing in samples.floors_wrong():
            refused(self, NoFloor, looked, thing, HOME, "", ())
            refused(self, NoFloor, shows_looked, thing, HOME, "", (), None)
        for thing in samples.stands_wrong(SQUARE):
            refused(self, NoStand, looked, SQUARE, thing, "", ())
            refused(self, NoStand, shows_looked, SQUARE, thing, "", (), None)
        for thing in samples.rows_wrong():
            refused(self, NoRow, looked, SQUARE, HOME, thing, ())
            refused(self, NoRow, shows_looked, SQUARE, HOME, thing, (), None)
        for row in ("s", "nn", "we", "neswws"):
            for looks in ((), None, [], ((0, (0, 0), 1000),), ((99, (0, 0), 0),)):
                refused(self, NotLet, looked, SQUARE, HOME, row, looks)
                refused(self, NotLet, shows_looked, SQUARE, HOME, row, looks, None)


class ShowsLooked(unittest.TestCase):
    def shows(self, wished, floor, stand, row, looks, thing):
        self.assertIs(shows_looked(floor, stand, row, looks, thing), wished, (floor, stand, row, looks, thing))

    def spoil(self, floor, stand, row, looks, thing):
        for other in samples.spoilt(thing, 3):
            self.shows(model.shows_looked(floor, stand, row, looks, other), floor, stand, row, looks, other)

    def some(self, wished, thing):
        self.shows(wished, CORNER, HOME, "nse", SOME, thing)

    def test_marks_where_no_look_tells(self):
        self.some(True, SOME_FIRST)
        for mark in (0, 1, 500, 999, None):
            self.some(True, ("first", (mark, 9, 4, mark, mark, mark, mark, 7, mark)))
        for spot in (0, 3, 4, 5, 6, 8):
            marks = SOME_FIRST[1]
            for part, wished in ((0, True), (999, True), (None, True), (1000, False), (-1, False), (True, False)):
                self.some(wished, ("first", marks[:spot] + (part,) + marks[spot + 1:]))

    def test_marks_where_a_look_tells(self):
        marks = SOME_FIRST[1]
        for spot in (1, 2, 7):
            for part in (None, 0, 8, 10, 999, 1000, -1, True, False, "9", (9,), str(marks[spot]), [marks[spot]]):
                self.some(False, ("first", marks[:spot] + (part,) + marks[spot + 1:]))

    def test_marks_of_another_number(self):
        marks = SOME_FIRST[1]
        for other in (marks[:-1], marks + (None,), marks[1:], (None,) + marks, (), marks + marks, list(marks)):
            self.some(False, ("first", other))

    def test_truths_for_numbers(self):
        looks = ((0, (0, 0), 1), (0, (0, 1), 0))
        marks = NOTHING[:6] + (1, 0, None)
        self.shows(True, CORNER, HOME, "n", looks, ("first", marks))
        self.shows(False, CORNER, HOME, "n", looks, ("first", NOTHING[:6] + (True, 0, None)))
        self.shows(False, CORNER, HOME, "n", looks, ("first", NOTHING[:6] + (1, False, None)))
        looks = ((0, (0, 0), 1), (0, (0, 0), 0))
        self.shows(True, CORNER, HOME, "n", looks, ("clash", 0, 1))
        for thing in (("clash", False, 1), ("clash", 0, True), ("clash", False, True)):
            self.shows(False, CORNER, HOME, "n", looks, thing)

    def test_each_two_looks_that_clash(self):
        shown = {(0, 3), (0, 4), (1, 2)}
        for one in range(-6, 7):
            for other in range(-6, 7):
                self.shows((one, other) in shown, CORNER, HOME, "nse", BAD, ("clash", one, other))

    def test_no_marks_where_looks_clash(self):
        for mark in (None, 5, 6, 8, 9):
            self.shows(False, CORNER, HOME, "nse", BAD, ("first", (mark,) * 9))
            self.shows(False, CORNER, HOME, "nse", BAD, ("first", (None, mark) + NOTHING[2:8] + (mark,)))

    def test_no_clash_where_there_is_none(self):
        for one in range(-1, 4):
            for other in range(-1, 4):
                self.some(False, ("clash", one, other))
                self.shows(False, CORNER, HOME, "nse", (), ("clash", one, other))
                self.shows(False, CORNER, HOME, "nse", SOME * 4, ("clash", one, other))

    def test_no_looks(self):
        self.shows(True, CORNER, HOME, "", (), ("first", NOTHING))
        self.shows(True, CORNER, HOME, "", (), ("first", (999,) * 9))
        self.shows(False, CORNER, HOME, "", (), ("first", (1000,) * 9))

    def test_either_with_one_part_otherwise(self):
        self.spoil(CORNER, HOME, "nse", SOME, SOME_FIRST)
        self.spoil(CORNER, HOME, "nse", (), ("first", NOTHING))
        self.spoil(CORNER, HOME, "nse", BAD, ("clash", 0, 3))
        self.spoil(CORNER, HOME, "nse", BAD, ("clash", 1, 2))
        self.spoil(CORNER, HOME, "nse", ((0, (0, 0), 1), (0, (0, 0), 0)), ("clash", 0, 1))

    def test_many_with_one_part_otherwise(self):
        for lot in lots_of_looks(30):
            self.spoil(*lot, looked(*lot))

    def test_things_of_other_kinds(self):
        for thing in samples.odd_things() + samples.marks_wrong(CORNER):
            self.some(False, thing)
            self.some(False, (thing, SOME_FIRST[1]))
            self.some(False, ("first", thing))
            self.some(False, ("clash", thing))
            self.shows(False, CORNER, HOME, "nse", BAD, thing)
            self.shows(False, CORNER, HOME, "nse", BAD, (thing, 0, 3))
            self.shows(False, CORNER, HOME, "nse", BAD, ("clash", thing, thing))
            if thing != 0 or thing is False:
                self.shows(False, CORNER, HOME, "nse", BAD, ("clash", thing, 3))
            self.shows(False, CORNER, HOME, "nse", BAD, ("clash", 0, thing))

    def test_near_to_either(self):
        marks = SOME_FIRST[1]
        for thing in (
            ["first", marks], ("first",), ("first", marks, None), ("First", marks), ("clash", marks), marks,
            ("first", *marks), ("first", (marks,)), {"first": marks}, ("marks", marks), (marks, "first"),
            (("first", marks),), ("", marks),
        ):
            self.some(False, thing)
        for thing in (
            ["clash", 0, 3], ("clash", 3, 0), ("clash", 0), ("clash", 0, 3, 4), ("clash", (0, 3)), ("first", 0, 3),
            (0, 3), ("clash", "0", "3"), ("clash", None, 3), ("clash", 0, None), ("clash",), ("Clash", 0, 3),
            ("clash", 0, 0), ("clash", 0, -2), ("clash", -5, 3), ("clash", -5, -2), ("clash", 0, 5), ("clash", 4, 0),
            ("clash", [0], [3]),
        ):
            self.shows(False, CORNER, HOME, "nse", BAD, thing)


if __name__ == "__main__":
    unittest.main()
