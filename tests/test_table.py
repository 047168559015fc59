"""Promise 100, and 3, 4 and 5 of it: a table."""

import copy
import inspect
import random
import unittest

from tests import model, samples
from tests.refusal import refused
from tumblemarks import errors
from tumblemarks.again import round_of
from tumblemarks.errors import NoCell, NoDeed, NoFloor, NoLying, NoMark, NoMarks, NoRoll, NoRow, NoSpot, NotLet, NoTimes
from tumblemarks.table import Table

LYING = samples.LYING
CORNER = samples.CORNER
SQUARE = samples.SQUARE
HOME = ((0, 0), LYING)
MARKS = (10, 11, 12, 13, 14, 15, 16, 17, 18)
MOST = 1000000000000


def table(floor=CORNER, cell=(0, 0), lying=LYING, marks=None):
    return Table(floor, cell, lying, samples.marks_plain(floor) if marks is None else marks)


def kept(one):
    """All that a table tells of itself."""
    return one.stand(), one.marks(), one.rolls(), len(one), repr(one)


def numbers_wrong():
    return samples.odd_but(range(1000)) + [
        -1, 1000, 1001, 9999999999999, -9999999999999, True, False, None, "5", "", (5,), [5], {5: 5},
    ]


class Made(unittest.TestCase):
    def test_as_it_is_made(self):
        for floor in samples.FLOORS:
            for stand in samples.stands(floor):
                one = table(floor, *stand)
                self.assertEqual(one.stand(), stand)
                self.assertEqual(one.marks(), samples.marks_plain(floor))
                self.assertEqual((one.rolls(), len(one), repr(one)), (0, 0, "Table(0 rolls)"))
                refused(self, NoDeed, one.undo)

    def test_refusals(self):
        for thing in samples.floors_wrong():
            refused(self, NoFloor, Table, thing, (0, 0), LYING, MARKS)
        for floor in samples.FLOORS:
            marks = samples.marks_plain(floor)
            for thing in samples.cells_wrong(floor):
                refused(self, NoCell, Table, floor, thing, LYING, marks)
            for thing in samples.marks_wrong(floor):
                refused(self, NoMarks, Table, floor, floor[0], LYING, thing)
        for thing in samples.lyings_wrong():
            refused(self, NoLying, Table, CORNER, (0, 0), thing, MARKS)

    def test_of_several_the_first(self):
        refused(self, NoFloor, Table, None, None, None, None)
        refused(self, NoCell, Table, CORNER, None, None, None)
        refused(self, NoLying, Table, CORNER, (0, 0), None, None)
        refused(self, NoMarks, Table, CORNER, (0, 0), LYING, None)

    def test_each_method_stands_in_the_class_with_its_arguments(self):
        wished = {
            "roll": ["letter"], "play": ["row", "times"], "mark": ["spot", "number"], "trade": ["one", "other"],
            "undo": [], "stand": [], "marks": [], "rolls": [], "at": ["cell"], "twin": [],
        }
        for name, arguments in wished.items():
            self.assertEqual(list(inspect.signature(vars(Table)[name]).parameters)[1:], arguments, name)
        for name in ("__len__", "__eq__", "__repr__"):
            self.assertIn(name, vars(Table))
        self.assertEqual(list(inspect.signature(Table).parameters), ["floor", "cell", "lying", "marks"])
        self.assertEqual(Table.__module__, "tumblemarks.table")

    def test_by_name(self):
        one = Table(marks=MARKS, lying=LYING, cell=(0, 0), floor=CORNER)
        self.assertEqual(one, Table(CORNER, (0, 0), LYING, MARKS))
        one.roll(letter="n")
        one.play(times=2, row="sn")
        one.play(row="s")
        one.mark(number=7, spot=3)
        one.trade(other=8, one=3)
        other = Table(CORNER, (0, 0), LYING, MARKS)
        other.roll("n")
        other.play("sn", 2)
        other.play("s")
        other.mark(3, 7)
        other.trade(3, 8)
        self.assertEqual(kept(one), kept(other))
        self.assertEqual(one.at(cell=(1, 0)), 7)


class Deeds(unittest.TestCase):
    def test_roll(self):
        one = Table(CORNER, (0, 0), LYING, MARKS)
        self.assertIs(one.roll("n"), None)
        self.assertEqual(one.stand(), ((0, 1), (1, 5, 2)))
        self.assertEqual(one.marks(), (10, 17, 12, 13, 14, 15, 16, 11, 18))
        self.assertEqual((one.rolls(), len(one), repr(one)), (1, 1, "Table(1 rolls)"))
        self.assertIs(one.roll("s"), None)
        self.assertEqual(one.stand(), HOME)
        self.assertEqual(one.marks(), (16, 17, 12, 13, 14, 15, 10, 11, 18))
        self.assertEqual((one.rolls(), len(one), repr(one)), (2, 2, "Table(2 rolls)"))

    def test_play_once(self):
        one = Table(CORNER, (0, 0), LYING, MARKS)
        self.assertIs(one.play("ns"), None)
        self.assertEqual(one.stand(), HOME)
        self.assertEqual(one.marks(), (16, 17, 12, 13, 14, 15, 10, 11, 18))
        self.assertEqual((one.rolls(), len(one)), (2, 1))

    def test_play_with_its_number_left_out_is_once(self):
        one, other = table(SQUARE), table(SQUARE)
        one.play("nesw")
        other.play("nesw", 1)
        self.assertEqual(kept(one), kept(other))

    def test_play_often(self):
        one = table(SQUARE)
        self.assertIs(one.play("nesw", 5), None)
        _, stand, marks = model.play(SQUARE, *HOME, "nesw" * 5, samples.marks_plain(SQUARE))
        self.assertEqual((one.stand(), one.marks(), one.rolls(), len(one)), (stand, marks, 20, 1))
        one = table(samples.LINE, (0, 2))
        one.play("e", 3)
        self.assertEqual((one.stand()[0], one.rolls(), len(one)), ((3, 2), 3, 1))

    def test_play_a_million_million_times(self):
        one = table(SQUARE)
        one.play("nesw", MOST)
        stand, exchanged = model.far(SQUARE, *HOME, "nesw", MOST)
        first = samples.marks_plain(SQUARE)
        self.assertEqual(one.stand(), stand)
        self.assertEqual([one.marks()[to] for to in exchanged], list(first))
        self.assertEqual((one.rolls(), len(one), repr(one)), (4 * MOST, 1, "Table(4000000000000 rolls)"))
        one.play("ns" * 30, MOST)
        self.assertEqual((one.rolls(), len(one), repr(one)), (64 * MOST, 2, "Table(64000000000000 rolls)"))
        one.undo()
        one.undo()
        self.assertEqual(kept(one), kept(table(SQUARE)))

    def test_play_never_and_play_no_rolls_are_deeds(self):
        one = table(SQUARE)
        first = one.stand(), one.marks()
        for many, deed in enumerate((("nesw", 0), ("", 1), ("", 0), ("", MOST), ("sssss", 0), ("n", 0)), 1):
            self.assertIs(one.play(*deed), None)
            self.assertEqual((one.stand(), one.marks()), first)
            self.assertEqual((one.rolls(), len(one), repr(one)), (0, many, "Table(0 rolls)"))
        for many in range(5, -1, -1):
            one.undo()
            self.assertEqual(len(one), many)

    def test_mark(self):
        one = Table(CORNER, (0, 0), LYING, MARKS)
        for spot in range(9):
            for number in (0, 999, 500, 10 + spot):
                self.assertIs(one.mark(spot, number), None)
                wished = MARKS[:spot] + (number,) + MARKS[spot + 1:]
                self.assertEqual(one.marks(), wished)
        self.assertEqual((one.stand(), one.rolls(), len(one)), (HOME, 0, 36))

    def test_trade(self):
        one = Table(CORNER, (0, 0), LYING, MARKS)
        self.assertIs(one.trade(0, 8), None)
        self.assertEqual(one.marks(), (18, 11, 12, 13, 14, 15, 16, 17, 10))
        self.assertIs(one.trade(8, 1), None)
        self.assertEqual(one.marks(), (18, 10, 12, 13, 14, 15, 16, 17, 11))
        self.assertIs(one.trade(4, 4), None)
        self.assertEqual(one.marks(), (18, 10, 12, 13, 14, 15, 16, 17, 11))
        self.assertEqual((one.stand(), one.rolls(), len(one)), (HOME, 0, 3))

    def test_undo_of_each_deed(self):
        for deed, things in (
            ("roll", ("n",)), ("play", ("nsew",)), ("play", ("nsew", 3)), ("play", ("n", 0)), ("play", ("", 9)),
            ("mark", (0, 7)), ("mark", (0, 10)), ("trade", (0, 6)), ("trade", (2, 2)),
        ):
            one = Table(CORNER, (0, 0), LYING, MARKS)
            getattr(one, deed)(*things)
            self.assertEqual(len(one), 1, deed)
            self.assertIs(one.undo(), None)
            self.assertEqual(kept(one), kept(Table(CORNER, (0, 0), LYING, MARKS)), deed)
            refused(self, NoDeed, one.undo)

    def test_undo_itself_is_none_that_can_be_undone(self):
        one = table(SQUARE)
        one.roll("n")
        one.roll("e")
        one.undo()
        self.assertEqual((one.stand()[0], len(one), one.rolls()), ((0, 1), 1, 1))
        one.undo()
        self.assertEqual((one.stand()[0], len(one), one.rolls()), ((0, 0), 0, 0))
        for _ in range(3):
            refused(self, NoDeed, one.undo)
        one.roll("e")
        self.assertEqual((one.stand()[0], len(one), one.rolls()), ((1, 0), 1, 1))

    def test_at(self):
        one = Table(CORNER, (0, 0), LYING, MARKS)
        self.assertEqual([one.at(cell) for cell in CORNER], [16, 17, 18])
        one.roll("n")
        self.assertEqual([one.at(cell) for cell in CORNER], [16, 11, 18])
        one.mark(8, 999)
        self.assertEqual([one.at(cell) for cell in CORNER], [16, 11, 999])
        for floor in samples.FLOORS:
            for thing in samples.cells_wrong(floor):
                refused(self, NoCell, table(floor, floor[0]).at, thing)


class Refused(unittest.TestCase):
    def unchanged(self, kind, one, deed, *things):
        ahead = kept(one)
        given = copy.deepcopy(things)
        refused(self, kind, getattr(one, deed), *things)
        self.assertEqual(kept(one), ahead, (deed, things))
        self.assertEqual(repr(things), repr(given))

    def begun(self):
        one = table(SQUARE)
        one.play("ne")
        one.mark(3, 5)
        return one

    def test_roll(self):
        one = self.begun()
        for thing in samples.letters_wrong():
            self.unchanged(NoRoll, one, "roll", thing)
        self.unchanged(NotLet, one, "roll", "n")
        self.unchanged(NotLet, one, "roll", "e")
        for letter in "nesw":
            self.unchanged(NotLet, table(samples.DOT, (2, 1)), "roll", letter)

    def test_play(self):
        one = self.begun()
        for thing in samples.rows_wrong():
            self.unchanged(NoRow, one, "play", thing)
            self.unchanged(NoRow, one, "play", thing, 0)
            self.unchanged(NoRow, one, "play", thing, None)
        for thing in samples.times_wrong():
            self.unchanged(NoTimes, one, "play", "", thing)
            self.unchanged(NoTimes, one, "play", "n", thing)
        for row, times in (("n", 1), ("s", 2), ("swnee", 1), ("sw", 2), ("s", MOST), ("swnes", MOST)):
            self.unchanged(NotLet, one, "play", row, times)
        self.unchanged(NotLet, one, "play", "n")

    def test_mark(self):
        one = self.begun()
        for thing in samples.spots_wrong(SQUARE):
            self.unchanged(NoSpot, one, "mark", thing, 5)
            self.unchanged(NoSpot, one, "mark", thing, None)
        for thing in numbers_wrong():
            for spot in (0, 9):
                self.unchanged(NoMark, one, "mark", spot, thing)

    def test_trade(self):
        one = self.begun()
        for thing in samples.spots_wrong(SQUARE):
            self.unchanged(NoSpot, one, "trade", thing, 5)
            self.unchanged(NoSpot, one, "trade", 5, thing)
            self.unchanged(NoSpot, one, "trade", thing, thing)

    def test_undo(self):
        for floor in samples.FLOORS:
            self.unchanged(NoDeed, table(floor, floor[0]), "undo")

    def test_at(self):
        one = self.begun()
        for thing in samples.cells_wrong(SQUARE):
            self.unchanged(NoCell, one, "at", thing)


class Twins(unittest.TestCase):
    def test_a_twin_is_as_it_is(self):
        one = table(SQUARE)
        one.play("nesw", 7)
        one.mark(3, 5)
        other = one.twin()
        self.assertIs(type(other), Table)
        self.assertIsNot(other, one)
        self.assertTrue(other == one)
        self.assertEqual(kept(other), kept(one))

    def test_a_twin_goes_on_by_itself(self):
        one = table(SQUARE)
        one.play("ne")
        other = one.twin()
        ahead = kept(one)
        other.roll("s")
        other.mark(0, 1)
        other.trade(0, 7)
        self.assertEqual(kept(one), ahead)
        self.assertFalse(one == other)
        for _ in range(4):
            other.undo()
        self.assertEqual(kept(one), ahead)
        self.assertEqual(kept(other), kept(table(SQUARE)))
        refused(self, NoDeed, other.undo)
        behind = kept(other)
        one.roll("w")
        self.assertEqual(kept(other), behind)

    def test_the_same_deeds_can_be_undone(self):
        one = table(SQUARE)
        for deed in ("n", "e", "s"):
            one.roll(deed)
            one.mark(2, len(one))
        other = one.twin()
        while len(one):
            self.assertEqual(kept(other), kept(one))
            one.undo()
            other.undo()
        self.assertEqual(kept(other), kept(one))

    def test_a_twin_of_a_new_table_and_of_a_twin(self):
        one = table(CORNER)
        other = one.twin().twin()
        self.assertTrue(one == other)
        self.assertEqual(len(other), 0)
        refused(self, NoDeed, other.undo)


class Alike(unittest.TestCase):
    def alike(self, wished, one, other):
        self.assertIs(one == other, wished)
        self.assertIs(one != other, not wished)
        self.assertIs(other == one, wished)
        self.assertIs(other != one, not wished)

    def test_the_same_floor_stand_and_marks(self):
        self.alike(True, table(), table())
        one = table()
        self.alike(True, one, one)

    def test_whatever_was_done(self):
        one, other = table(), table()
        one.play("nsns")
        other.mark(0, 100)
        self.assertEqual((one.rolls(), len(one)), (4, 1))
        self.alike(True, one, table())
        self.alike(True, one, other)

    def test_unlike(self):
        one = table()
        wider = Table(SQUARE, (0, 0), LYING, samples.marks_plain(CORNER) + (0,))
        for other in (
            table(cell=(0, 1)), table(lying=(0, 2, 4)), table(marks=(0,) * 9), table(SQUARE), wider,
            table(marks=samples.marks_plain(CORNER)[:-1] + (1,)), table(samples.LINE, (0, 2)),
            Table(((0, 0), (0, 1), (1, 1)), (0, 0), LYING, samples.marks_plain(CORNER)),
        ):
            self.alike(False, one, other)
        one.roll("n")
        self.alike(False, one, table())
        one.undo()
        self.alike(True, one, table())

    def test_things_of_other_kinds(self):
        one = table()
        for thing in samples.odd_things() + [
            (one.stand(), one.marks()), one.marks(), CORNER, [one], (one,), {0: one}, "Table(0 rolls)", repr(one),
            Table, one.stand(), errors.NoFloor(), (CORNER, one.stand(), one.marks()), object(),
        ]:
            self.alike(False, one, thing)

    def test_a_table_handed_in_is_none_of_what_is_asked(self):
        one = table()
        refused(self, NoFloor, Table, one, (0, 0), LYING, MARKS)
        refused(self, NoRoll, one.roll, one)
        refused(self, NoRow, one.play, one)
        refused(self, NoTimes, one.play, "", one)
        refused(self, NoSpot, one.mark, one, 0)
        refused(self, NoMark, one.mark, 0, one.twin())
        refused(self, NoCell, one.at, one)
        self.assertEqual(kept(one), kept(table()))


class ByTheModel(unittest.TestCase):
    def deed(self, chance, floor):
        """A name and things that are often right."""
        spot = chance.randint(0, 6 + len(floor)), chance.randint(0, 5 + len(floor))
        return chance.choice((
            ("roll", (chance.choice("nesw"),)), ("roll", (chance.choice("nesw"),)),
            ("play", ("".join(chance.choice("nesw") for _ in range(chance.randint(0, 4))),)),
            ("play", (chance.choice(("nesw", "ns", "ew", "wesn", "n", "ensw")), chance.randint(0, 3))),
            ("mark", (spot[0], chance.randint(0, 1001))), ("trade", spot), ("undo", ()), ("undo", ()),
        ))

    def follow(self, floor, state, deed, things):
        """The state behind a deed, None where it is refused; a state is a tuple (stand, marks, rolls)."""
        stand, marks, rolls = state
        many = 6 + len(floor)
        if deed in ("roll", "play"):
            row = things[0] * (things[1] if len(things) > 1 else 1)
            off, stand, marks = model.play(floor, *stand, row, marks)
            return (stand, marks, rolls + len(row)) if off is None else None
        if things[0] >= many or (deed == "mark" and things[1] > 999):
            return None
        held = list(marks)
        if deed == "mark":
            held[things[0]] = things[1]
        else:
            held[things[0]], held[things[1]] = marks[things[1]], marks[things[0]]
        return (stand, tuple(held), rolls)

    def test_many_deeds(self):
        chance = random.Random(100)
        counts = {}
        for floor in samples.FLOORS * 3:
            stand = (chance.choice(floor), chance.choice(model.lyings()))
            one = table(floor, *stand)
            states = [(stand, samples.marks_plain(floor), 0)]
            for _ in range(120):
                deed, things = self.deed(chance, floor)
                if deed == "undo":
                    done = len(states) > 1 and states.pop()
                else:
                    done = self.follow(floor, states[-1], deed, things)
                    states += [done] if done else []
                self.does(one, done, deed, things)
                self.told(floor, one, states)
                counts[deed, bool(done)] = counts.get((deed, bool(done)), 0) + 1
        self.assertEqual(len(counts), 10)

    def does(self, one, done, deed, things):
        if done:
            self.assertIs(getattr(one, deed)(*things), None)
        else:
            with self.assertRaises(errors.TumbleError):
                getattr(one, deed)(*things)

    def told(self, floor, one, states):
        stand, marks, rolls = states[-1]
        self.assertEqual((one.stand(), one.marks(), one.rolls()), (stand, marks, rolls))
        self.assertEqual((len(one), repr(one)), (len(states) - 1, f"Table({rolls} rolls)"))
        self.assertEqual(tuple(one.at(cell) for cell in floor), marks[6:])
        self.assertEqual([type(one.stand()), type(one.marks()), type(one.rolls())], [tuple, tuple, int])
        self.assertEqual(one == table(floor, *stand, marks), True)

    def test_a_round_brings_all_back(self):
        for floor, cell, lying, row in samples.round_walks(20):
            one = table(floor, cell, lying)
            many = round_of(floor, (cell, lying), row)
            one.play(row, many)
            self.assertTrue(one == table(floor, cell, lying))
            self.assertEqual((one.rolls(), len(one)), (many * len(row), 1))


if __name__ == "__main__":
    unittest.main()
