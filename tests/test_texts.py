"""Promise 110: floors, stands and marks as they are written."""

import itertools
import re
import unittest

from tests import samples
from tests.refusal import refused
from tumblemarks.errors import NoFloor, NoMarks, NoStand, NoText
from tumblemarks.texts import floor_text, marks_text, read_floor, stand_text

LYING = samples.LYING
CORNER = samples.CORNER
CELLS = [(column, line) for column in range(4) for line in range(4)]
CELL = "[0-3],[0-3]"


def read_by_pattern(text):
    """The floor that a text writes, None where it writes none."""
    if type(text) is not str or not re.fullmatch(f"floor( {CELL}){{1,9}}", text):
        return None
    cells = [(int(part[0]), int(part[2])) for part in re.findall(CELL, text)]
    return tuple(cells) if cells == sorted(set(cells)) else None


class Texts(unittest.TestCase):
    def test_floors(self):
        for wished, floor in (
            ("floor 0,0 0,1 1,0", CORNER), ("floor 2,1", samples.DOT), ("floor 0,2 1,2 2,2 3,2", samples.LINE),
            ("floor 0,0 0,1 0,2 1,0 1,1 1,2 2,0 2,1 2,2", samples.NINE),
        ):
            self.assertEqual(floor_text(floor), wished)
            self.assertIs(type(floor_text(floor)), str)
        for thing in samples.floors_wrong():
            refused(self, NoFloor, floor_text, thing)

    def test_stands(self):
        self.assertEqual(stand_text(CORNER, ((0, 1), LYING)), "0,1 012")
        self.assertEqual(stand_text(samples.SPREAD, ((3, 0), (5, 4, 2))), "3,0 542")
        for floor in samples.FLOORS:
            for (column, line), (low, north, east) in samples.stands(floor):
                wished = str(column) + "," + str(line) + " " + str(low) + str(north) + str(east)
                self.assertEqual(stand_text(floor, ((column, line), (low, north, east))), wished)
            for thing in samples.stands_wrong(floor):
                refused(self, NoStand, stand_text, floor, thing)
        for thing in samples.floors_wrong():
            refused(self, NoFloor, stand_text, thing, ((0, 0), LYING))
            refused(self, NoFloor, stand_text, thing, None)

    def test_marks(self):
        self.assertEqual(marks_text(samples.DOT, (0, 1, 20, 300, 999, 5, 0)), "0 1 20 300 999 5 0")
        self.assertEqual(marks_text(CORNER, (0,) * 9), "0 0 0 0 0 0 0 0 0")
        for floor in samples.FLOORS:
            marks = samples.marks_plain(floor)
            self.assertEqual(marks_text(floor, marks).split(" "), [str(mark) for mark in marks])
            for thing in samples.marks_wrong(floor):
                refused(self, NoMarks, marks_text, floor, thing)
        for thing in samples.floors_wrong():
            refused(self, NoFloor, marks_text, thing, (0,) * 9)
            refused(self, NoFloor, marks_text, thing, None)


class ReadFloor(unittest.TestCase):
    def read(self, text):
        wished = read_by_pattern(text)
        if wished is None:
            refused(self, NoText, read_floor, text)
        else:
            self.assertEqual(read_floor(text), wished, text)
            self.assertIs(type(read_floor(text)), tuple)
        return wished

    def test_what_was_written(self):
        floors = [*samples.FLOORS, tuple(CELLS[:9]), tuple(CELLS[-9:])] + list(itertools.combinations(CELLS, 2))
        for floor in floors + [(cell,) for cell in CELLS]:
            self.assertEqual(read_floor(floor_text(floor)), floor)
            self.assertEqual(self.read(floor_text(floor)), floor)

    def test_texts_that_write_none(self):
        for text in (
            "", "floor", "floor ", " floor 0,0", "floor 0,0 ", "floor  0,0", "floor 0,0  0,1", "floor 0, 0",
            "floor 0 ,0", "floor 00,0", "floor 0,00", "floor 0,01", "floor 01,1", "floor 0,1 0,0", "floor 1,0 0,1",
            "floor 0,0 0,0",
            "floor 0,0 0,1 0,1", "floor 0,4", "floor 4,0", "floor 0,10", "floor 0,-1", "floor -1,0", "floor 0,+1",
            "Floor 0,0", "FLOOR 0,0", "floors 0,0", "floor0,0", "0,0", "floor 0,0,0", "floor 0", "floor ,0", "floor 0,",
            "floor ,", "floor 0;0", "floor 0.0", "floor (0, 0)", "floor ((0, 0),)", "floor 0,0\n", "\nfloor 0,0",
            "floor\n0,0", "floor 0,0\n0,1", "floor\t0,0", "floor 0,a", "floor n", "floor 0,0 floor", "floor floor 0,0",
            "floor 0,0 floor 0,1", "floor 0,0 x", "floor 00", "floor 0,0 01", "floor 1e0,0", "floor 1_0,0",
            "floor " + " ".join(f"{column},{line}" for column, line in CELLS[:10]),
            "floor " + " ".join(f"{column},{line}" for column, line in CELLS),
            "floor" + " 0,0" * 240, "ok", "stand", "floor 0,0 012",
        ):
            self.assertIs(read_by_pattern(text), None, text)
            self.read(text)

    def test_what_is_no_text(self):
        for thing in samples.odd_things() + [CORNER, ["floor 0,0"], ("floor 0,0",), {"floor 0,0": 1}, ["floor", "0,0"]]:
            refused(self, NoText, read_floor, thing)
        for thing in samples.floors_wrong():
            if thing != "floor 0,0":
                refused(self, NoText, read_floor, thing)

    def test_each_text_with_one_sign_otherwise(self):
        signs = "0123456789, -floor\n.+xN"
        written = 0
        for text in ("floor 0,0", "floor 0,0 0,1", "floor 1,2 2,1 3,3"):
            for at in range(len(text) + 1):
                others = [text[:at] + text[at + 1:], text[:at] + text[at:at + 1] * 2 + text[at + 1:]]
                for sign in signs:
                    others += [text[:at] + sign + text[at:], text[:at] + sign + text[at + 1:]]
                written += sum(self.read(other) is not None for other in others)
        self.assertGreater(written, 20)

    def test_each_two_and_three_words(self):
        words = ("floor", "0,0", "0,1", "2,3", "", "4,0", "00,0")
        for many in (1, 2, 3, 4):
            for lot in itertools.product(words, repeat=many):
                self.read(" ".join(lot))


if __name__ == "__main__":
    unittest.main()
