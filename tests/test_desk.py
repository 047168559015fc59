"""Promise 111, and 3 and 4 of it: a desk."""

import copy
import inspect
import itertools
import random
import re
import unittest

from tests import model, samples
from tests.refusal import refused
from tumblemarks import errors
from tumblemarks.again import round_of
from tumblemarks.desk import Desk
from tumblemarks.errors import NoDeed, NoFloor, NoLine, NoMark, NoSpot, NotLet, NoTimes
from tumblemarks.table import Table
from tumblemarks.texts import floor_text, marks_text, stand_text
from tumblemarks.wishes import bring

LYING = samples.LYING
CORNER = samples.CORNER
SQUARE = samples.SQUARE
CORNER_LINE = "floor 0,0 0,1 1,0"
SQUARE_LINE = "floor 0,0 0,1 1,0 1,1"
MOST = "1000000000000"
NUMBER = "(0|[1-9][0-9]{0,12})"
ROW = "(-|[nesw]{1,60})"
FORMS = (
    "roll [nesw]", f"play {ROW}", f"play {ROW} {NUMBER}", f"mark {NUMBER} {NUMBER}", f"trade {NUMBER} {NUMBER}",
    "undo", "stand", "marks", "rolls", f"round {ROW}", f"bring {NUMBER} {NUMBER}",
)
# Lines of each form, all of which are lines, whether or not they are refused for something else.
RIGHT = (
    "roll n", "roll e", "roll s", "roll w", "play -", "play n", "play nesw", "play " + "ns" * 30, "play - 0",
    "play - 1", "play n 0", "play nesw " + MOST, "play ns 9999999999999", "mark 0 0", "mark 6 999",
    "mark 9999999999999 1",
    "mark 1 9999999999999", "trade 0 8", "trade 3 3", "trade 9999999999999 9999999999999", "undo", "stand", "marks",
    "rolls", "round -", "round ns", "round nn", "round " + "ew" * 30, "bring 0 6", "bring 9999999999999 0", "bring 3 3",
)
WRONG = (
    "", " ", "\n", "ok", "floor", "floor ", "floor 0,4", "floor 0,1 0,0", "floor 0,0 0,0", "floor 0,0 ", " floor 0,0",
    "floor 00,0", "floor  0,0", "Floor 0,0", "floor 0,0\n",
    "roll", "roll ", "roll x", "roll N", "roll nn", "roll n e", "roll  n", " roll n", "roll n ", "Roll n", "roll -",
    "rolln", "roll 0", "roll n 1", "roll\nn",
    "play", "play ", "play x", "play N", "play nx", "play n s", "play --", "play n-", "play -n", "play n 1 1",
    "play  n",
    "play n  1", "play n 01", "play n 00", "play n -1", "play n +1", "play n 1.0", "play n 1,0", "play 1", "play 1 n",
    "play n 10000000000000", "play n 00000000000001", "play n x", "play n ", " play n", "play " + "n" * 61,
    "play " + "ns" * 31, "play " + "n" * 61 + " 0", "play - -", "play  1", "play n 1_0", "play n 1 ",
    "mark", "mark 0", "mark 0 ", "mark 0 0 0", "mark 00 0", "mark 0 00", "mark 0 01", "mark -1 0", "mark 0 -1",
    "mark 0  0", "mark n 0", "mark 0 n", "mark 10000000000000 0", "mark 0 10000000000000", "mark 0,0 5",
    "Mark 0 0", "mark 0 +1",
    "trade", "trade 0", "trade 0 0 0", "trade 00 0", "trade 0 01", "trade x y", "trade 0 10000000000000", "trade 0,1",
    "undo 1", "undo ", " undo", "Undo", "undo\n", "undoo", "und",
    "stand 0", "stand ", "Stand", "stands", "marks 0", "marks ", "mark s", "rolls 1", "rolls ", "roll s s", " rolls",
    "round", "round ", "round x", "round n 1", "round --", "round " + "n" * 61, "round 1", "Round n", "round  n",
    "round n ",
    "bring", "bring 0", "bring 0 0 0", "bring 00 0", "bring 0 01", "bring n 0", "bring 0 10000000000000", "bring 0  0",
    "bring 0,0 0,1", "twin", "at 0,0", "help", "len", "way", "~" * 1000, "roll n\nroll s", "roll n;undo", "LETTER",
    "roll LETTER", "play ROW", "play ROW N", "mark N N", "bring N N",
)


def desk(*lines):
    one = Desk()
    for line in lines:
        one.say(line)
    return one


def kept(one):
    """What a desk tells of its table."""
    return one.say("stand"), one.say("marks"), one.say("rolls")


class Says(unittest.TestCase):
    def says(self, one, *answers):
        """Each line, and what is answered."""
        for line, wished in answers:
            told = one.say(line)
            self.assertEqual(told, wished, line)
            self.assertIs(type(told), str)

    def test_a_floor(self):
        self.says(
            Desk(), (CORNER_LINE, "ok"), ("stand", "0,0 012"), ("marks", "0 1 2 3 4 5 6 7 8"), ("rolls", "0"),
            ("floor 2,1 2,2", "ok"), ("stand", "2,1 012"), ("marks", "0 1 2 3 4 5 6 7"), ("floor 3,3", "ok"),
            ("stand", "3,3 012"), ("marks", "0 1 2 3 4 5 6"),
        )
        for floor in samples.FLOORS:
            wished = " ".join(str(spot) for spot in range(6 + len(floor)))
            first = f"{floor[0][0]},{floor[0][1]} 012"
            self.says(Desk(), (floor_text(floor), "ok"), ("stand", first), ("marks", wished), ("rolls", "0"))

    def test_a_new_floor_ends_the_old_table(self):
        one = desk(CORNER_LINE, "roll n", "mark 3 7")
        self.says(one, (CORNER_LINE, "ok"), ("stand", "0,0 012"), ("marks", "0 1 2 3 4 5 6 7 8"), ("rolls", "0"))
        refused(self, NoDeed, one.say, "undo")

    def test_roll(self):
        self.says(
            desk(CORNER_LINE), ("roll n", "ok"), ("stand", "0,1 152"), ("marks", "0 7 2 3 4 5 6 1 8"), ("rolls", "1"),
            ("roll s", "ok"), ("stand", "0,0 012"), ("marks", "6 7 2 3 4 5 0 1 8"), ("rolls", "2"),
            ("roll e", "ok"), ("stand", "1,0 215"), ("roll w", "ok"), ("rolls", "4"),
        )

    def test_play(self):
        self.says(
            desk(CORNER_LINE), ("play ns", "ok"), ("stand", "0,0 012"), ("marks", "6 7 2 3 4 5 0 1 8"), ("rolls", "2"),
            ("play ns 1", "ok"), ("marks", "0 1 2 3 4 5 6 7 8"), ("rolls", "4"), ("play ns 2", "ok"), ("rolls", "8"),
            ("play -", "ok"), ("rolls", "8"), ("play - 5", "ok"), ("rolls", "8"), ("play sss 0", "ok"), ("rolls", "8"),
            ("play n", "ok"), ("stand", "0,1 152"), ("rolls", "9"),
        )

    def test_play_a_million_million_times(self):
        one = desk(SQUARE_LINE)
        stand, exchanged = model.far(SQUARE, (0, 0), LYING, "nesw", 10 ** 12)
        marks = [None] * 10
        for spot, to in enumerate(exchanged):
            marks[to] = spot
        self.says(
            one, ("play nesw " + MOST, "ok"), ("stand", stand_text(SQUARE, stand)), ("rolls", "4000000000000"),
            ("marks", " ".join(str(mark) for mark in marks)), ("undo", "ok"), ("rolls", "0"),
        )

    def test_rows_of_sixty_letters(self):
        one = desk(CORNER_LINE)
        self.says(one, ("play " + "ns" * 30, "ok"), ("rolls", "60"), ("round " + "ns" * 30, "1"))
        refused(self, NoLine, one.say, "play " + "ns" * 30 + "n")
        refused(self, NoLine, one.say, "round " + "ns" * 30 + "n")

    def test_mark_trade_and_undo(self):
        self.says(
            desk(CORNER_LINE), ("mark 0 999", "ok"), ("marks", "999 1 2 3 4 5 6 7 8"), ("trade 0 8", "ok"),
            ("marks", "8 1 2 3 4 5 6 7 999"), ("trade 1 1", "ok"), ("mark 1 0", "ok"), ("marks", "8 0 2 3 4 5 6 7 999"),
            ("undo", "ok"), ("undo", "ok"), ("marks", "8 1 2 3 4 5 6 7 999"), ("undo", "ok"), ("undo", "ok"),
            ("marks", "0 1 2 3 4 5 6 7 8"), ("stand", "0,0 012"),
        )

    def test_round(self):
        self.says(
            desk(CORNER_LINE), ("round -", "1"), ("round ns", "2"), ("round nsew", "2"), ("round n", "none"),
            ("round s", "none"), ("round nn", "none"), ("roll n", "ok"), ("round sn", "2"), ("round ns", "none"),
        )
        self.says(desk(SQUARE_LINE), ("round nesw", "21"), ("round neswn", "none"), ("rolls", "0"))

    def test_bring(self):
        self.says(
            desk(CORNER_LINE), ("bring 1 7", "n"), ("bring 0 6", "ew"), ("bring 5 6", "never"), ("bring 3 3", "-"),
            ("bring 2 0", "never"), ("roll n", "ok"), ("bring 1 7", bring(CORNER, ((0, 1), (1, 5, 2)), 1, 7)[1]),
            ("bring 0 6", "s"), ("rolls", "1"),
        )
        one = desk(SQUARE_LINE)
        for spot, to in itertools.product(range(10), repeat=2):
            word, row = bring(SQUARE, ((0, 0), LYING), spot, to)
            self.says(one, (f"bring {spot} {to}", (row or "-") if word == "row" else "never"))

    def test_questions_are_no_deeds(self):
        one = desk(CORNER_LINE)
        for line in ("stand", "marks", "rolls", "round ns", "round n", "bring 0 6", "bring 5 6"):
            one.say(line)
        refused(self, NoDeed, one.say, "undo")
        self.says(one, ("stand", "0,0 012"), ("marks", "0 1 2 3 4 5 6 7 8"))

    def test_the_line_by_its_name(self):
        self.assertEqual(Desk().say(line=CORNER_LINE), "ok")
        self.assertEqual(list(inspect.signature(vars(Desk)["say"]).parameters)[1:], ["line"])
        self.assertEqual(list(inspect.signature(Desk).parameters), [])
        self.assertEqual(Desk.__module__, "tumblemarks.desk")

    def test_two_desks_have_nothing_in_common(self):
        one, other = Desk(), Desk()
        self.says(one, (CORNER_LINE, "ok"))
        refused(self, NoFloor, other.say, "stand")
        self.says(other, (CORNER_LINE, "ok"), ("roll n", "ok"), ("mark 0 5", "ok"))
        self.says(one, ("stand", "0,0 012"), ("marks", "0 1 2 3 4 5 6 7 8"), ("rolls", "0"))
        refused(self, NoDeed, one.say, "undo")
        self.says(one, (SQUARE_LINE, "ok"))
        self.says(other, ("stand", "0,1 152"), ("marks", "5 7 2 3 4 5 6 1 8"), ("rolls", "1"))


class Refused(unittest.TestCase):
    def unchanged(self, kind, one, line):
        ahead = kept(one)
        given = copy.deepcopy(line)
        refused(self, kind, one.say, line)
        self.assertEqual(kept(one), ahead, line)
        self.assertEqual(repr(line), repr(given))

    def test_the_samples_are_what_they_are_said_to_be(self):
        for line in RIGHT:
            self.assertTrue(any(re.fullmatch(form, line) for form in FORMS), line)
        for line in WRONG:
            self.assertFalse(any(re.fullmatch(form, line) for form in FORMS), line)

    def test_no_line_with_a_table_and_without(self):
        one = desk(CORNER_LINE, "roll n")
        for line in WRONG:
            self.unchanged(NoLine, one, line)
            refused(self, NoLine, Desk().say, line)
        for thing in samples.odd_things() + [["stand"], ("stand",), {"stand": 1}, ["roll", "n"], CORNER, [CORNER_LINE]]:
            self.unchanged(NoLine, one, thing)
            refused(self, NoLine, Desk().say, thing)

    def test_no_table(self):
        one = Desk()
        for line in RIGHT:
            refused(self, NoFloor, one.say, line)
        self.assertEqual(one.say(CORNER_LINE), "ok")
        self.assertEqual(one.say("rolls"), "0")

    def test_refused_by_the_table(self):
        one = desk(CORNER_LINE, "play ns")
        for kind, lines in (
            (NotLet, ("roll s", "roll w", "play nn", "play n 2", "play s", "play n " + MOST, "play nsn 2")),
            (NoTimes, ("play ns 1000000000001", "play ns 9999999999999", "play - 1000000000001")),
            (NoTimes, ("play s 1000000000001", "play nn 9999999999999")),
            (NoSpot, ("mark 9 5", "mark 9 1000", "mark 9999999999999 0", "trade 9 0", "trade 0 9", "trade 10 11")),
            (NoMark, ("mark 0 1000", "mark 8 9999999999999")),
            (NoSpot, ("bring 9 0", "bring 0 9", "bring 9999999999999 9999999999999")),
        ):
            for line in lines:
                self.unchanged(kind, one, line)
        one.say("undo")
        self.unchanged(NoDeed, one, "undo")

    def test_a_refused_line_is_no_deed(self):
        one = desk(CORNER_LINE, "roll n")
        for line in WRONG + ("roll n", "mark 9 9", "mark 0 1000", "trade 0 9", "play nn", "play - 1000000000001"):
            with self.assertRaises(errors.TumbleError):
                one.say(line)
        self.assertEqual(one.say("undo"), "ok")
        self.assertEqual(kept(one), kept(desk(CORNER_LINE)))
        refused(self, NoDeed, one.say, "undo")

    def test_each_line_with_one_sign_otherwise(self):
        one = desk(CORNER_LINE)
        lines = 0
        for text in RIGHT[:12] + RIGHT[13:]:
            for at in range(0, len(text) + 1, 1 + len(text) // 30):
                for sign in ("", "n", "x", "0", "1", " ", "-", "\n", "N", ","):
                    for other in (text[:at] + sign + text[at:], text[:at] + sign + text[at + 1:]):
                        wished = any(re.fullmatch(form, other) for form in FORMS)
                        self.is_line(wished, one, other)
                        lines += wished
        self.assertGreater(lines, 500)

    def is_line(self, wished, one, line):
        try:
            one.say(line)
            told = True
        except NoLine:
            told = False
        except errors.TumbleError:
            told = True
        self.assertIs(told, wished, line)


class ByTheTable(unittest.TestCase):
    def line(self, chance, floor):
        spots = chance.randint(0, 6 + len(floor)), chance.randint(0, 6 + len(floor))
        row = "".join(chance.choice("nesw") for _ in range(chance.randint(0, 4))) or "-"
        return chance.choice((
            f"roll {chance.choice('nesw')}", f"roll {chance.choice('nesw')}", f"play {row}",
            f"play {row} {chance.randint(0, 3)}", f"mark {spots[0]} {chance.choice((0, 5, 77, 999, 1000))}",
            f"trade {spots[0]} {spots[1]}", "undo", "stand", "marks", "rolls", f"round {row}",
            f"bring {spots[0]} {spots[1]}",
        ))

    def wished(self, floor, one, line):
        """What a desk answers whose table this is."""
        word, *parts = line.split(" ")
        things = [int(part) if part.isdigit() else part.replace("-", "") for part in parts]
        if word in ("roll", "play", "mark", "trade", "undo"):
            getattr(one, word)(*things)
            return "ok"
        if word == "round":
            try:
                return str(round_of(floor, one.stand(), *things))
            except NotLet:
                return "none"
        if word == "bring":
            told = bring(floor, one.stand(), *things)
            return "never" if told[0] == "never" else told[1] or "-"
        return {
            "stand": stand_text(floor, one.stand()), "marks": marks_text(floor, one.marks()), "rolls": str(one.rolls()),
        }[word]

    def outcome(self, ask, *things):
        try:
            return ask(*things)
        except errors.TumbleError as error:
            return type(error)

    def test_many_lines(self):
        chance = random.Random(111)
        told = set()
        for floor in (samples.DOT, samples.LINE, CORNER, SQUARE, samples.SPREAD):
            one = desk(floor_text(floor))
            table = Table(floor, floor[0], LYING, tuple(range(6 + len(floor))))
            for _ in range(150):
                line = self.line(chance, floor)
                wished = self.outcome(self.wished, floor, table, line)
                self.assertEqual(self.outcome(one.say, line), wished, line)
                told.add(wished)
        self.assertLessEqual({"ok", "none", "never", "-", NotLet, NoSpot, NoMark, NoDeed}, told)


if __name__ == "__main__":
    unittest.main()
