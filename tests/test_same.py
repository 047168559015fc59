"""Promises 60 and 61, and 5 of them: rows that do the same, and rows that undo a row."""

import itertools
import unittest

from tests import model, samples
from tests.refusal import refused
from tumblemarks.errors import NoFloor, NoRow, NoStand, NotLet
from tumblemarks.marks import marks_behind
from tumblemarks.rows import apart, does_undo, shortest, undoing

LYING = samples.LYING
CORNER = samples.CORNER
SQUARE = samples.SQUARE
LINE = samples.LINE
NINE = samples.NINE
HOME = ((0, 0), LYING)
EAST = ((0, 2), LYING)


def is_let(floor, stand, row):
    return model.play(floor, *stand, row, (0,) * 15)[0] is None


def done(floor, stand, row):
    """The stand and the marks behind a row, each spot's mark being its number."""
    return model.play(floor, *stand, row, tuple(range(6 + len(floor))))[1:]


def let_rows(floor, stand, most):
    """All rows of at most so many rolls that are let."""
    rows = [""]
    for row in rows:
        if len(row) < most:
            rows.extend(row + letter for letter in "nesw" if is_let(floor, stand, row + letter))
    return rows


def parted(floor, stand, one, other):
    for number, row in enumerate((one, other)):
        if not is_let(floor, stand, row):
            return ("let", number)
    (first, _), (second, _) = done(floor, stand, one), done(floor, stand, other)
    if first != second:
        return ("stands", first, second)
    exchanges = model.exchange(floor, *stand, one), model.exchange(floor, *stand, other)
    unlike = [spot for spot in range(6 + len(floor)) if exchanges[0][spot] != exchanges[1][spot]]
    if unlike:
        return ("marks", unlike[0], exchanges[0][unlike[0]], exchanges[1][unlike[0]])
    return ("same",)


def swept(row):
    """A row that does the same: what is undone is put in at each place."""
    return "".join(letter + samples.BACK[letter] + letter + samples.BACK[letter] + letter for letter in row)


class Apart(unittest.TestCase):
    def told(self, wished, floor, stand, one, other):
        told = apart(floor, stand, one, other)
        self.assertEqual(told, wished, (floor, stand, one, other))
        self.assertEqual([type(part) for part in told], [type(part) for part in wished])
        self.assertIs(type(told), tuple)

    def test_the_same(self):
        self.told(("same",), CORNER, HOME, "", "")
        self.told(("same",), CORNER, HOME, "n", "n")
        self.told(("same",), CORNER, HOME, "", "nsns")
        self.told(("same",), CORNER, HOME, "nsns", "ewew")
        self.told(("same",), CORNER, HOME, "nsnsn", "n")
        self.told(("same",), LINE, EAST, "ee", "ewewee")

    def test_not_let(self):
        self.told(("let", 0), CORNER, HOME, "s", "")
        self.told(("let", 0), CORNER, HOME, "s", "s")
        self.told(("let", 0), CORNER, HOME, "nn", "w")
        self.told(("let", 1), CORNER, HOME, "", "s")
        self.told(("let", 1), CORNER, HOME, "n", "nn")
        self.told(("let", 1), CORNER, HOME, "n", "nsw")
        self.told(("let", 0), samples.DOT, ((2, 1), LYING), "n", "")
        self.told(("let", 1), samples.DOT, ((2, 1), LYING), "", "ns")

    def test_unlike_stands(self):
        self.told(("stands", ((0, 1), (1, 5, 2)), HOME), CORNER, HOME, "n", "")
        self.told(("stands", HOME, ((0, 1), (1, 5, 2))), CORNER, HOME, "", "n")
        self.told(("stands", ((0, 1), (1, 5, 2)), ((1, 0), (2, 1, 5))), CORNER, HOME, "n", "e")

    def test_unlike_lyings_of_one_cell(self):
        self.told(("stands", ((1, 1), (2, 5, 4)), ((1, 1), (1, 3, 5))), SQUARE, HOME, "ne", "en")
        self.told(("stands", ((0, 0), (1, 2, 0)), HOME), SQUARE, HOME, "nesw", "ns")

    def test_unlike_marks(self):
        # There and back exchanges the marks of the two ends, each with its own face.
        self.told(("marks", 0, 6, 0), CORNER, HOME, "ns", "")
        self.told(("marks", 0, 0, 6), CORNER, HOME, "", "ew")
        self.told(("marks", 1, 7, 1), CORNER, HOME, "ns", "ew")
        self.told(("marks", 1, 1, 7), CORNER, HOME, "ew", "ns")
        self.told(("marks", 0, 0, 6), CORNER, HOME, "nsew", "ns")
        self.told(("marks", 0, 6, 0), CORNER, HOME, "nsn", "n")
        self.told(("marks", 1, 7, 1), CORNER, HOME, "nsew", "nsns")

    def test_the_first_of_several(self):
        # The first isn't let, nor is the second; both are let, and stands and marks are unlike.
        self.told(("let", 0), SQUARE, HOME, "neswws", "w")
        self.told(("stands", ((0, 0), (1, 2, 0)), HOME), SQUARE, HOME, "nesw", "")

    def test_each_two_short_rows(self):
        words = set()
        for floor, stand, most in ((CORNER, HOME, 4), (SQUARE, ((1, 1), (2, 0, 1)), 3), (LINE, ((1, 2), LYING), 3)):
            for one, other in itertools.product(samples.rows_up_to(most), repeat=2):
                wished = parted(floor, stand, one, other)
                self.told(wished, floor, stand, one, other)
                words.add(wished[0])
        self.assertEqual(words, {"same", "let", "stands", "marks"})

    def test_long_rows(self):
        for floor, cell, lying, row in samples.long_walks(80):
            for other in (row, swept(row), row[:-1], row + row[-1:], row[::-1], row[:-2], row[2:]):
                self.told(parted(floor, (cell, lying), row, other), floor, (cell, lying), row, other)
                self.told(parted(floor, (cell, lying), other, row), floor, (cell, lying), other, row)
            self.told(("same",), floor, (cell, lying), row, swept(row))

    def test_the_same_is_so_whatever_the_marks_are(self):
        marks = samples.marks_plain(SQUARE)
        for row in samples.rows_up_to(4):
            if is_let(SQUARE, HOME, row):
                self.assertEqual(apart(SQUARE, HOME, row, swept(row)), ("same",))
                self.assertEqual(marks_behind(SQUARE, HOME, swept(row), marks), marks_behind(SQUARE, HOME, row, marks))

    def test_refusals(self):
        for thing in samples.floors_wrong():
            refused(self, NoFloor, apart, thing, HOME, "", "")
        for thing in samples.stands_wrong(SQUARE):
            refused(self, NoStand, apart, SQUARE, thing, "", "")
        for thing in samples.rows_wrong():
            refused(self, NoRow, apart, SQUARE, HOME, thing, "")
            refused(self, NoRow, apart, SQUARE, HOME, "", thing)
            refused(self, NoRow, apart, SQUARE, HOME, "s", thing)


class Shortest(unittest.TestCase):
    def told(self, wished, floor, stand, row):
        told = shortest(floor, stand, row)
        self.assertEqual(told, wished, (floor, stand, row))
        self.assertIs(type(told), type(wished))

    def test_rows_of_no_rolls_and_what_does_nothing(self):
        for floor in samples.FLOORS:
            self.told("", floor, (floor[0], LYING), "")
        self.told("", CORNER, HOME, "nsns")
        self.told("", CORNER, HOME, "ewewnsns")
        self.told("", SQUARE, HOME, "nsnsewew")

    def test_shorter_ones(self):
        self.told("n", CORNER, HOME, "nsnsn")
        self.told("nsn", CORNER, HOME, "nsn")
        self.told("ns", CORNER, HOME, "nsnsns")

    def test_of_as_short_ones_the_least(self):
        # On the corner the two ways there and back may be done in either order.
        self.told("ewns", CORNER, HOME, "nsew")
        self.told("ewns", CORNER, HOME, "ewns")
        self.told("ewn", CORNER, HOME, "ewn")
        self.told("ewnse", CORNER, HOME, "nsewe")

    def test_none(self):
        row = "nesw" * 3
        self.assertNotEqual(parted(SQUARE, HOME, row, ""), ("same",))
        self.told(None, SQUARE, HOME, row)
        self.told(None, SQUARE, HOME, "nesw" * 2)
        self.told(None, NINE, HOME, "nneessw")

    def test_six_rolls_and_seven(self):
        self.told("nneess", NINE, HOME, "nneess")
        self.told("nneess", NINE, HOME, "nneess" + "nsns")
        self.told(None, NINE, HOME, "nneessw")
        self.told("nneess", NINE, HOME, "nneesswewe")

    def by_lists(self, floor, stand, rows):
        """Against the first of all rows of at most six rolls that does the same."""
        firsts = {}
        for row in sorted(let_rows(floor, stand, 6), key=lambda row: (len(row), row)):
            firsts.setdefault(done(floor, stand, row), row)
        told = {None: 0}
        for row in rows:
            wished = firsts.get(done(floor, stand, row))
            self.told(wished, floor, stand, row)
            told[wished] = told.get(wished, 0) + 1
        return told

    def test_each_row_of_six_rolls_at_most(self):
        for floor, stand in ((SQUARE, HOME), (CORNER, ((1, 0), (4, 5, 3))), (LINE, ((1, 2), (2, 0, 1)))):
            self.assertEqual(self.by_lists(floor, stand, let_rows(floor, stand, 6))[None], 0)

    def test_longer_rows(self):
        none = some = 0
        for floor, cell, lying, row in samples.long_walks(60):
            stand = (cell, lying)
            parts = [row[:many] for many in (5, 6, 7, 8, 10, 60)]
            told = self.by_lists(floor, stand, parts + [swept(part) for part in parts])
            none += told[None]
            some += sum(told.values()) - told[None]
        self.assertGreater(min(none, some), 50)

    def test_nine_cells(self):
        stand = ((1, 1), LYING)
        rows = let_rows(NINE, stand, 6)
        self.by_lists(NINE, stand, rows[::7] + [swept(row) for row in rows[::29]])

    def test_refusals(self):
        for ask in (shortest, undoing):
            for thing in samples.floors_wrong():
                refused(self, NoFloor, ask, thing, HOME, "")
            for thing in samples.stands_wrong(SQUARE):
                refused(self, NoStand, ask, SQUARE, thing, "")
            for thing in samples.rows_wrong():
                refused(self, NoRow, ask, SQUARE, HOME, thing)
            for row in ("s", "nn", "neswws", "we", "ns" * 29 + "nn"):
                refused(self, NotLet, ask, SQUARE, HOME, row)
            for letter in "nesw":
                refused(self, NotLet, ask, samples.DOT, ((2, 1), LYING), letter)


class DoesUndo(unittest.TestCase):
    def told(self, wished, floor, stand, row, other):
        self.assertIs(does_undo(floor, stand, row, other), wished, (floor, stand, row, other))

    def test_no_rolls(self):
        for floor in samples.FLOORS:
            self.told(True, floor, (floor[0], LYING), "", "")
        self.told(True, CORNER, HOME, "", "nsns")
        self.told(True, CORNER, HOME, "nsns", "")
        self.told(False, CORNER, HOME, "", "ns")
        self.told(False, CORNER, HOME, "ns", "")

    def test_a_roll_is_undone_by_three(self):
        self.told(True, CORNER, HOME, "n", "sns")
        self.told(True, CORNER, HOME, "e", "wew")
        self.told(False, CORNER, HOME, "n", "s")
        self.told(False, CORNER, HOME, "n", "snsns")
        self.told(True, CORNER, HOME, "n", "snsnsns")

    def test_other_rows(self):
        self.told(True, CORNER, HOME, "ns", "ns")
        self.told(True, CORNER, HOME, "nsew", "nsew")
        self.told(True, CORNER, HOME, "nsew", "ewns")
        self.told(False, CORNER, HOME, "ns", "ew")
        self.told(False, SQUARE, HOME, "nesw", "enws")
        self.told(False, SQUARE, HOME, "nesw", "nesw" * 2)
        self.told(True, SQUARE, HOME, "nesw", "nesw" * 20)

    def test_one_that_is_not_let_behind_the_other(self):
        self.told(False, CORNER, HOME, "n", "n")
        self.told(False, CORNER, HOME, "n", "snss")
        self.told(False, CORNER, HOME, "", "s")
        self.told(False, CORNER, HOME, "nsns", "we")
        self.told(False, samples.DOT, ((2, 1), LYING), "", "ns")

    def test_a_row_to_be_undone_that_is_not_let(self):
        for row, other in (("s", ""), ("s", "n"), ("nn", "ss"), ("we", ""), ("nn", "w"), ("s", "nsn")):
            refused(self, NotLet, does_undo, CORNER, HOME, row, other)
        # Let behind the other one, but not from the stand.
        refused(self, NotLet, does_undo, CORNER, HOME, "s", "n")

    def test_the_lying_counts(self):
        # Three times round the square all lies as it lay, but marks don't stand as they stood, and the other way about.
        for times in range(1, 22):
            _, held = done(SQUARE, HOME, "nesw" * times)
            stand = done(SQUARE, HOME, "nesw" * times)[0]
            self.told(stand == HOME and held == tuple(range(10)), SQUARE, HOME, "nesw", "nesw" * (times - 1))

    def test_each_two_short_rows(self):
        for floor, stand, most in ((CORNER, HOME, 4), (SQUARE, ((1, 1), (2, 0, 1)), 3)):
            start = (stand, tuple(range(6 + len(floor))))
            for row, other in itertools.product(samples.rows_up_to(most), repeat=2):
                if is_let(floor, stand, row):
                    wished = is_let(floor, stand, row + other) and done(floor, stand, row + other) == start
                    self.told(wished, floor, stand, row, other)
                else:
                    refused(self, NotLet, does_undo, floor, stand, row, other)

    def test_refusals(self):
        for thing in samples.floors_wrong():
            refused(self, NoFloor, does_undo, thing, HOME, "", "")
        for thing in samples.stands_wrong(SQUARE):
            refused(self, NoStand, does_undo, SQUARE, thing, "", "")
        for thing in samples.rows_wrong():
            refused(self, NoRow, does_undo, SQUARE, HOME, thing, "")
            refused(self, NoRow, does_undo, SQUARE, HOME, "", thing)
            refused(self, NoRow, does_undo, SQUARE, HOME, "s", thing)


class Undoing(unittest.TestCase):
    def undone(self, floor, stand, row):
        told = undoing(floor, stand, row)
        self.assertIs(type(told), str)
        self.assertLessEqual(len(told), 3 * len(row))
        self.assertTrue(is_let(floor, stand, row + told), (floor, stand, row))
        self.assertEqual(done(floor, stand, row + told), (stand, tuple(range(6 + len(floor)))), (floor, stand, row))
        self.assertIs(does_undo(floor, stand, row, told), True)
        return told

    def test_no_rolls(self):
        for floor in samples.FLOORS:
            for stand in samples.stands(floor):
                self.assertEqual(self.undone(floor, stand, ""), "")

    def test_each_single_roll(self):
        for floor in samples.FLOORS:
            for stand in samples.stands(floor):
                for letter in "nesw":
                    if is_let(floor, stand, letter):
                        self.undone(floor, stand, letter)

    def test_short_rows(self):
        for row in samples.rows_up_to(5):
            if is_let(SQUARE, HOME, row):
                self.undone(SQUARE, HOME, row)

    def test_long_rows(self):
        for floor, cell, lying, row in samples.long_walks(200):
            self.undone(floor, (cell, lying), row)

    def test_a_told_row_is_undone_itself(self):
        for floor, cell, lying, row in samples.long_walks(20):
            there = done(floor, (cell, lying), row)[0]
            told = undoing(floor, (cell, lying), row)
            again = self.undone(floor, there, told)
            self.undone(floor, (cell, lying), again)
            self.assertEqual(apart(floor, (cell, lying), again, row), ("same",))

    def test_the_marks_are_as_at_first_whatever_they_were(self):
        for floor, cell, lying, row in samples.long_walks(40):
            for marks in (samples.marks_plain(floor), (7,) * (6 + len(floor))):
                behind = marks_behind(floor, (cell, lying), row, marks)
                there = done(floor, (cell, lying), row)[0]
                self.assertEqual(marks_behind(floor, there, undoing(floor, (cell, lying), row), behind), marks)


if __name__ == "__main__":
    unittest.main()
