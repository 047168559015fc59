"""Promises 3 and 4, and the interface, for each function of it."""

import copy
import importlib
import inspect
import itertools
import unittest

from tests import samples
from tests.refusal import refused
from tumblemarks import errors
from tumblemarks.desk import Desk
from tumblemarks.table import Table

CORNER = samples.CORNER
HOME = ((0, 0), samples.LYING)
MARKS = samples.marks_plain(CORNER)
NORTH = ((0, 1), (1, 5, 2))
EAST = ((1, 0), (2, 1, 5))
LOOKS = ((0, (0, 1), 7), (1, (0, 1), 9), (3, (1, 0), 4))
FIRST = ("first", (None, 9, 4, None, None, None, None, 7, None))
PAIR = (NORTH, EAST)
TURNS = ((0, "s"), (0, "n"), (1, "w"))

# Of each function its arguments, in order, each with something that is right.
FUNCTIONS = {
    ("floors", "is_floor"): {"thing": CORNER},
    ("floors", "is_lying"): {"thing": samples.LYING},
    ("floors", "lying_behind"): {"lying": samples.LYING, "letter": "n"},
    ("floors", "first_off"): {"floor": CORNER, "cell": (0, 0), "row": "nn"},
    ("floors", "stand_behind"): {"floor": CORNER, "cell": (0, 0), "lying": samples.LYING, "row": "nse"},
    ("marks", "marks_behind"): {"floor": CORNER, "stand": HOME, "row": "nse", "marks": MARKS},
    ("marks", "exchange"): {"floor": CORNER, "stand": HOME, "row": "nse"},
    ("marks", "rounds"): {"floor": CORNER, "stand": HOME, "row": "nse"},
    ("marks", "order"): {"floor": CORNER, "stand": HOME, "row": "nse"},
    ("marks", "is_even"): {"floor": CORNER, "stand": HOME, "row": "nse"},
    ("ways", "way"): {"floor": CORNER, "one": NORTH, "other": EAST},
    ("again", "how_often"): {"floor": CORNER, "cell": (0, 0), "row": "n"},
    ("again", "stand_far"): {"floor": CORNER, "stand": HOME, "row": "nsew", "times": 5},
    ("again", "exchange_far"): {"floor": CORNER, "stand": HOME, "row": "nsew", "times": 5},
    ("again", "round_of"): {"floor": CORNER, "stand": HOME, "row": "nsew"},
    ("wishes", "bring"): {"floor": CORNER, "stand": HOME, "spot": 0, "to": 6},
    ("wishes", "shows_bring"): {"floor": CORNER, "stand": HOME, "spot": 0, "to": 6, "thing": ("row", "ns")},
    ("wishes", "may_come"): {"floor": CORNER, "stand": HOME, "spot": 2},
    ("wishes", "still"): {"floor": CORNER, "stand": HOME},
    ("looks", "looked"): {"floor": CORNER, "stand": HOME, "row": "nse", "looks": LOOKS},
    ("looks", "shows_looked"): {"floor": CORNER, "stand": HOME, "row": "nse", "looks": LOOKS, "thing": FIRST},
    ("looks", "seen_spots"): {"floor": CORNER, "stand": HOME, "row": "nsew", "cells": ((0, 1), (1, 0))},
    ("looks", "seen_first"): {"floor": CORNER, "stand": HOME, "row": "nsew", "cells": ((1, 0),), "spot": 2},
    ("rows", "apart"): {"floor": CORNER, "stand": HOME, "one": "ns", "other": "ew"},
    ("rows", "shortest"): {"floor": CORNER, "stand": HOME, "row": "nsew"},
    ("rows", "does_undo"): {"floor": CORNER, "stand": HOME, "row": "n", "other": "sns"},
    ("rows", "undoing"): {"floor": CORNER, "stand": HOME, "row": ""},
    ("pairs", "first_stop"): {"floor": CORNER, "pair": PAIR, "turns": ((0, "s"), (1, "w"))},
    ("pairs", "pair_behind"): {"floor": CORNER, "pair": PAIR, "turns": TURNS},
    ("pairs", "exchange_two"): {"floor": CORNER, "pair": PAIR, "turns": TURNS},
    ("traces", "least_turns"): {"floor": CORNER, "pair": PAIR, "turns": TURNS},
    ("traces", "how_many"): {"floor": CORNER, "pair": PAIR, "turns": TURNS},
    ("traces", "come_of"): {"floor": CORNER, "pair": PAIR, "one": TURNS, "other": TURNS[2:]},
    ("mending", "left_out"): {"floor": CORNER, "cell": (0, 0), "row": "nes"},
    ("mending", "mends"): {"floor": CORNER, "cell": (0, 0), "row": "nes", "thing": (1,)},
    ("mending", "cells_more"): {"floor": CORNER, "cell": (0, 0), "row": "nes"},
    ("turned", "turned_floor"): {"floor": CORNER, "word": "left"},
    ("turned", "turned_stand"): {"floor": CORNER, "word": "left", "stand": HOME},
    ("turned", "turned_row"): {"word": "mirror", "row": "nesw"},
    ("turned", "turned_spots"): {"floor": CORNER, "word": "mirror"},
    ("texts", "floor_text"): {"floor": CORNER},
    ("texts", "stand_text"): {"floor": CORNER, "stand": NORTH},
    ("texts", "marks_text"): {"floor": CORNER, "marks": MARKS},
    ("texts", "read_floor"): {"text": "floor 0,0 0,1 1,0"},
}

ANSWERS = {
    ("floors", "is_floor"): True,
    ("floors", "is_lying"): True,
    ("floors", "lying_behind"): (1, 5, 2),
    ("floors", "first_off"): 1,
    ("floors", "stand_behind"): ((1, 0), (2, 1, 5)),
    ("marks", "marks_behind"): (142, 149, 156, 121, 128, 135, 100, 107, 114),
    ("marks", "exchange"): (6, 7, 8, 3, 4, 5, 0, 1, 2),
    ("marks", "rounds"): ((0, 6), (1, 7), (2, 8)),
    ("marks", "order"): 2,
    ("marks", "is_even"): False,
    ("ways", "way"): "se",
    ("again", "how_often"): 1,
    ("again", "stand_far"): HOME,
    ("again", "exchange_far"): (0, 7, 8, 3, 4, 5, 6, 1, 2),
    ("again", "round_of"): 2,
    ("wishes", "bring"): ("row", "ew"),
    ("wishes", "shows_bring"): True,
    ("wishes", "may_come"): (2, 8),
    ("wishes", "still"): (3, 4, 5),
    ("looks", "looked"): FIRST,
    ("looks", "shows_looked"): True,
    ("looks", "seen_spots"): (1, 2, 7, 8),
    ("looks", "seen_first"): 3,
    ("rows", "apart"): ("marks", 1, 7, 1),
    ("rows", "shortest"): "ewns",
    ("rows", "does_undo"): True,
    ("rows", "undoing"): "",
    ("pairs", "first_stop"): 1,
    ("pairs", "pair_behind"): (NORTH, HOME),
    ("pairs", "exchange_two"): (6, 13, 2, 3, 4, 5, 12, 7, 8, 9, 10, 11, 0, 1, 14),
    ("traces", "least_turns"): TURNS,
    ("traces", "how_many"): 1,
    ("traces", "come_of"): False,
    ("mending", "left_out"): (1,),
    ("mending", "mends"): True,
    ("mending", "cells_more"): ((1, 1),),
    ("turned", "turned_floor"): ((2, 0), (3, 0), (3, 1)),
    ("turned", "turned_stand"): ((3, 0), (0, 2, 4)),
    ("turned", "turned_row"): "nwse",
    ("turned", "turned_spots"): (0, 1, 3, 2, 4, 5, 7, 8, 6),
    ("texts", "floor_text"): "floor 0,0 0,1 1,0",
    ("texts", "stand_text"): "0,1 152",
    ("texts", "marks_text"): "100 107 114 121 128 135 142 149 156",
    ("texts", "read_floor"): CORNER,
}

# Of each function what it refuses, in the interface's order: the argument, the error, and wrong things.
FLOOR = ("floor", "NoFloor", (None, list(CORNER), CORNER[::-1], (), ((0, 0), (0, True)), CORNER + ((9, 9),)))
CELL = ("cell", "NoCell", (None, [0, 0], (1, 1), (0, False), (0, 0, 0), 0))
LYING = ("lying", "NoLying", (None, [0, 1, 2], (0, 2, 1), (0, True, 2), (0, 1)))
LETTER = ("letter", "NoRoll", (None, "", "ne", "N", ["n"]))
STAND = ("stand", "NoStand", (None, list(HOME), ((1, 1), (0, 1, 2)), ((0, 0), (0, 2, 1)), ((0, False), (0, 1, 2))))
ROW = ("row", "NoRow", (None, "nx", "N", ["n"], ("n",), 0))
SHORT = ("marks", "NoMarks", (None, list(MARKS), MARKS[:-1], MARKS + (0,), MARKS[:-1] + (1000,), (True,) * 9))
OFF = ("row", "NotLet", ("s", "nn", "wen", "nsnn"))
ENDS = ("row", "NotLet", ("s", "we", "n", "nse"))
ONE = ("one", "NoStand", STAND[2])
OTHER = ("other", "NoStand", STAND[2])
TIMES = ("times", "NoTimes", (None, -1, 1000000000001, True, "5", (5,)))
SPOT = ("spot", "NoSpot", (None, -1, 9, True, "2", (2,)))
TO = ("to", "NoSpot", SPOT[2])
BLIND = ("looks", "NoLooks", (None, list(LOOKS), LOOKS * 5, ((4, (0, 1), 7),), ((0, (1, 1), 7),), ((0, (0, 1), 1000),)))
CELLS = ("cells", "NoCells", (None, [(0, 1)], ((0, 1), (0, 1)), ((1, 0), (0, 1)), ((1, 1),), ((0, True),)))
ONE_ROW = ("one", "NoRow", ROW[2])
OTHER_ROW = ("other", "NoRow", ROW[2])
PAIRS = ("pair", "NoPair", (None, list(PAIR), (NORTH, NORTH), (NORTH, ((1, 1), (0, 1, 2))), (NORTH,), PAIR + (HOME,)))
BAD_TURNS = (None, list(TURNS), TURNS * 9, ((2, "n"),), ((True, "n"),), ((0, "x"),), ((0, "n", 0),), ("0n",))
TURNED = ("turns", "NoTurns", BAD_TURNS)
ONE_TURNS = ("one", "NoTurns", BAD_TURNS)
OTHER_TURNS = ("other", "NoTurns", BAD_TURNS)
STOPPED = (((0, "n"),), ((0, "s"), (1, "w")), ((0, "s"), (0, "e")), TURNS + ((0, "s"),))
STOP = ("turns", "NotLet", STOPPED)
ONE_STOP = ("one", "NotLet", STOPPED)
OTHER_STOP = ("other", "NotLet", STOPPED)
WORD = ("word", "NoWord", (None, "", "right", "Left", ["left"], ("mirror",), 0))
TEXT = ("text", "NoText", (None, "", "floor", "floor 0,1 0,0", "floor 0,4", "floor  0,0", ["floor 0,0"], CORNER))
REFUSALS = {
    ("floors", "lying_behind"): (LYING, LETTER),
    ("floors", "first_off"): (FLOOR, CELL, ROW),
    ("floors", "stand_behind"): (FLOOR, CELL, LYING, ROW, OFF),
    ("marks", "marks_behind"): (FLOOR, STAND, ROW, SHORT, OFF),
    ("marks", "exchange"): (FLOOR, STAND, ROW, OFF),
    ("marks", "rounds"): (FLOOR, STAND, ROW, OFF),
    ("marks", "order"): (FLOOR, STAND, ROW, OFF),
    ("marks", "is_even"): (FLOOR, STAND, ROW, OFF),
    ("ways", "way"): (FLOOR, ONE, OTHER),
    ("again", "how_often"): (FLOOR, CELL, ROW),
    ("again", "stand_far"): (FLOOR, STAND, ROW, TIMES, ENDS),
    ("again", "exchange_far"): (FLOOR, STAND, ROW, TIMES, ENDS),
    ("again", "round_of"): (FLOOR, STAND, ROW, ENDS),
    ("wishes", "bring"): (FLOOR, STAND, SPOT, TO),
    ("wishes", "shows_bring"): (FLOOR, STAND, SPOT, TO),
    ("wishes", "may_come"): (FLOOR, STAND, SPOT),
    ("wishes", "still"): (FLOOR, STAND),
    ("looks", "looked"): (FLOOR, STAND, ROW, OFF, BLIND),
    ("looks", "shows_looked"): (FLOOR, STAND, ROW, OFF, BLIND),
    ("looks", "seen_spots"): (FLOOR, STAND, ROW, CELLS, ENDS),
    ("looks", "seen_first"): (FLOOR, STAND, ROW, CELLS, SPOT, ENDS),
    ("rows", "apart"): (FLOOR, STAND, ONE_ROW, OTHER_ROW),
    ("rows", "shortest"): (FLOOR, STAND, ROW, OFF),
    ("rows", "does_undo"): (FLOOR, STAND, ROW, OTHER_ROW, OFF),
    ("rows", "undoing"): (FLOOR, STAND, ROW, OFF),
    ("pairs", "first_stop"): (FLOOR, PAIRS, TURNED),
    ("pairs", "pair_behind"): (FLOOR, PAIRS, TURNED, STOP),
    ("pairs", "exchange_two"): (FLOOR, PAIRS, TURNED, STOP),
    ("traces", "least_turns"): (FLOOR, PAIRS, TURNED, STOP),
    ("traces", "how_many"): (FLOOR, PAIRS, TURNED, STOP),
    ("traces", "come_of"): (FLOOR, PAIRS, ONE_TURNS, OTHER_TURNS, ONE_STOP, OTHER_STOP),
    ("mending", "left_out"): (FLOOR, CELL, ROW),
    ("mending", "mends"): (FLOOR, CELL, ROW),
    ("mending", "cells_more"): (FLOOR, CELL, ROW),
    ("turned", "turned_floor"): (FLOOR, WORD),
    ("turned", "turned_stand"): (FLOOR, WORD, STAND),
    ("turned", "turned_row"): (WORD, ROW),
    ("turned", "turned_spots"): (FLOOR, WORD),
    ("texts", "floor_text"): (FLOOR,),
    ("texts", "stand_text"): (FLOOR, STAND),
    ("texts", "marks_text"): (FLOOR, SHORT),
    ("texts", "read_floor"): (TEXT,),
}

# Of some arguments what is among the things of many kinds, and right.
RIGHT = {
    "spot": range(9), "to": range(9), "times": range(1001), "looks": [()], "cells": [()], "turns": [()], "one": [()],
    "other": [()],
}


def found(name):
    return getattr(importlib.import_module("tumblemarks." + name[0]), name[1])


def wrongs(name, many):
    """Each lot of so many wrong arguments of a function, with the error that is due first."""
    for lot in itertools.combinations(REFUSALS[name], many):
        if len({argument for argument, _, _ in lot}) == many:
            for things in itertools.product(*(wrong for _, _, wrong in lot)):
                yield lot[0][1], dict(zip((argument for argument, _, _ in lot), things))


class Interface(unittest.TestCase):
    def test_names_and_arguments(self):
        for name, right in FUNCTIONS.items():
            told = inspect.signature(found(name)).parameters
            self.assertEqual(list(told), list(right), name)
            self.assertEqual({part.default for part in told.values()}, {inspect.Parameter.empty}, name)

    def test_each_is_defined_in_its_file(self):
        for name in FUNCTIONS:
            self.assertEqual(found(name).__module__, "tumblemarks." + name[0], name)


class HandedIn(unittest.TestCase):
    def test_at_its_place_or_by_its_name(self):
        for name, right in FUNCTIONS.items():
            named = list(right)
            for many in range(len(named) + 1):
                ahead = [right[argument] for argument in named[:many]]
                behind = {argument: right[argument] for argument in reversed(named[many:])}
                told = found(name)(*ahead, **behind)
                self.assertEqual(told, ANSWERS[name], (name, many))
                self.assertIs(type(told), type(ANSWERS[name]), (name, many))

    def test_the_same_asked_again(self):
        for _ in range(3):
            for name, right in FUNCTIONS.items():
                self.assertEqual(found(name)(**right), ANSWERS[name], name)

    def test_right_things_are_as_they_were(self):
        for name, right in FUNCTIONS.items():
            kept = copy.deepcopy(right)
            found(name)(**right)
            self.assertEqual(repr(right), repr(kept), name)

    def test_refused_things_are_as_they_were(self):
        for name in REFUSALS:
            for argument, _, _ in REFUSALS[name]:
                lists = [[(0, 1), (0, 0)], [[0, 0], [0, 1, 2]], [3, 2, 1], ["s", "n"], [[3, 2], [1, 0]]]
                for thing in samples.odd_but(RIGHT.get(argument, ())) + lists:
                    kept = copy.deepcopy(thing)
                    refused(self, errors_due(name, argument), found(name), **{**FUNCTIONS[name], argument: thing})
                    self.assertEqual(repr(thing), repr(kept), (name, argument))

    def test_things_told_of_anything_are_as_they_were(self):
        for name in FUNCTIONS:
            if "thing" in FUNCTIONS[name]:
                for thing in samples.floors_wrong() + samples.lyings_wrong() + lists_told():
                    kept = copy.deepcopy(thing)
                    for _ in range(2):
                        self.assertIs(found(name)(**{**FUNCTIONS[name], "thing": thing}), False, (name, thing))
                        self.assertEqual(repr(thing), repr(kept), name)

    def test_a_refusal_leaves_no_trace(self):
        for name in REFUSALS:
            for _, change in wrongs(name, 1):
                try:
                    found(name)(**{**FUNCTIONS[name], **change})
                except errors.TumbleError:
                    pass
                self.assertEqual(found(name)(**FUNCTIONS[name]), ANSWERS[name], (name, change))


def lists_told():
    """Near to what is told, but with lists, and not rising, so that putting them right would show."""
    lots = [[(1, 0), (2, 1, 5), 2], [(0, 0), (0, 1, 2), 2]]
    return [
        ["row", "ns"], ("row", ["n", "s"]), ["never", lots], ("never", lots), ("never", tuple(lots)),
        ["first", list(FIRST[1])], ("first", list(FIRST[1])), ["clash", 1, 0], ("clash", [1, 0]),
    ]


def errors_due(name, argument):
    return [getattr(errors, kind) for at, kind, _ in REFUSALS[name] if at == argument][0]


class ToldAndHandedIn(unittest.TestCase):
    def test_what_was_told_is_answered_or_refused_at_each_place(self):
        told = list(ANSWERS.values())
        told += [found(("wishes", "bring"))(samples.SQUARE, HOME, 0, 3), found(("wishes", "bring"))(CORNER, HOME, 2, 0)]
        told += [found(("looks", "looked"))(CORNER, HOME, "n", ((0, (0, 0), 1), (1, (0, 0), 2)))]
        told += [part for thing in told if type(thing) is tuple for part in thing]
        table = Table(CORNER, *HOME, MARKS)
        table.play("nsew", 1000000000000)
        desk = Desk()
        told += [table, table.twin(), table.marks(), table.rolls(), (table,), ("row", table), ("never", (table,))]
        told += [desk.say(line) for line in ("floor 0,0 0,1 1,0", "stand", "marks", "rolls", "round ns", "bring 0 3")]
        for name, right in FUNCTIONS.items():
            kinds = tuple(getattr(errors, kind) for _, kind, _ in REFUSALS.get(name, ()))
            for argument in right:
                for thing in told:
                    try:
                        found(name)(**{**right, argument: thing})
                    except kinds:
                        pass

    def test_rows_that_were_told(self):
        far = found(("ways", "way"))(samples.NINE, HOME, ((2, 2), (3, 5, 1)))
        back = found(("ways", "way"))(samples.NINE, ((2, 2), (3, 5, 1)), HOME)
        word, row = found(("wishes", "bring"))(samples.NINE, HOME, 3, 14)
        self.assertEqual(word, "row")
        self.assertEqual(found(("floors", "stand_behind"))(samples.NINE, *HOME, far + back), HOME)
        self.assertEqual(found(("marks", "exchange"))(samples.NINE, HOME, row)[3], 14)
        many = found(("again", "round_of"))(samples.NINE, HOME, far + back)
        behind = found(("again", "exchange_far"))(samples.NINE, HOME, far + back, many)
        self.assertEqual(behind, tuple(range(15)))


class Refusals(unittest.TestCase):
    def due(self, many):
        for name in REFUSALS:
            for kind, change in wrongs(name, many):
                refused(self, getattr(errors, kind), found(name), **{**FUNCTIONS[name], **change})

    def test_each_alone(self):
        self.due(1)

    def test_of_two_the_first(self):
        self.due(2)

    def test_of_three_the_first(self):
        self.due(3)

    def test_of_four_the_first(self):
        self.due(4)

    def test_of_five_the_first(self):
        self.due(5)


if __name__ == "__main__":
    unittest.main()
