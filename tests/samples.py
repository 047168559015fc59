"""What the tests hand in, and ways to ask with it."""

import random

from tests import model

LYING = (0, 1, 2)
DOT = ((2, 1),)
LINE = ((0, 2), (1, 2), (2, 2), (3, 2))
POST = ((3, 0), (3, 1), (3, 2), (3, 3))
CORNER = ((0, 0), (0, 1), (1, 0))
SQUARE = ((0, 0), (0, 1), (1, 0), (1, 1))
RING = ((1, 1), (1, 2), (1, 3), (2, 1), (2, 3), (3, 1), (3, 2), (3, 3))
NINE = ((0, 0), (0, 1), (0, 2), (1, 0), (1, 1), (1, 2), (2, 0), (2, 1), (2, 2))
SPREAD = ((0, 0), (0, 3), (1, 1), (1, 2), (2, 0), (3, 0), (3, 3))
FLOORS = (DOT, LINE, POST, CORNER, SQUARE, RING, NINE, SPREAD)


def nested(inmost, make, depth):
    thing = inmost
    for _ in range(depth):
        thing = make(thing)
    return thing


# Made anew at each call, so that no test can spoil another one's.
def odd_things():
    """Things of many kinds; none is a floor, cell, lying, stand, row or marks, nor a letter."""
    return [
        None, True, False, 0, 1, -1, 5, 999, 1000, 9999999999999, -9999999999999,
        " ", "N", "x", "north", "n e", "n\n", "\n", "ne ", "nE", "0", "(0, 0)", "None", "~" * 1000,
        [], [0], [0, 0], [(0, 0)], ["n"], [[0, 0]], [0, 1, 2], [None], ["n", "e"], list(range(6000)),
        (), (0,), (0, 0, 0, 0), ("n",), ("n", "e"), (None,), ((),), ((), ()), ("", ""), ((0, 0), (0, 0)),
        ("0", "1"), ("0", "1", "2"), ([],), ({},), (0, 1, 2, 3), (0, 1, 3), tuple(range(5990)),
        {}, {0: 0}, {"n": "n"}, {(0, 0): (0, 1)}, {0: 0, 1: 1, 2: 2}, {(0, 0): True},
        nested(0, lambda thing: (thing,), 8), nested("n", lambda thing: [thing], 8),
        nested(None, lambda thing: {0: thing}, 8),
    ]


def floors_wrong():
    """Things that are near to floors, and none."""
    return odd_things() + [
        ((0, 0), (0, 1), (0, 2), (0, 3), (1, 0), (1, 1), (1, 2), (1, 3), (2, 0), (2, 1)),
        ((0, 1), (0, 0)), ((1, 0), (0, 1)), ((0, 0), (0, 2), (0, 1)), ((0, 0), (1, 1), (1, 0), (2, 2)),
        ((0, 0), (0, 0)), ((0, 0), (0, 1), (0, 1)), ((0, 0), (0, 1), (1, 1), (1, 1), (2, 2)), ((1, 1),) * 9,
        ((0, 4),), ((4, 0),), ((0, -1),), ((-1, 0),), ((0, 0), (0, 1), (0, 4)), ((0, 0), (4, 0)),
        ((-1, 0), (0, 0)), ((0, 9999999999999),), ((-9999999999999, 0),),
        ((True, 0),), ((0, False),), ((0, 0), (0, True)), ((False, False),), ((0, 0), (True, 1)), (True,),
        ((0, 0), False), ((0, 0), None), ((0, None),), ((None, 0),), (("0", "0"),), ("00",), ("00", "01"),
        [(0, 0), (0, 1)], [[0, 0], [0, 1]], ([0, 0],), ((0, 0), [0, 1]), ([0, 0], (0, 1)), [((0, 0),)],
        (0, 0), (0, 1), ((0,),), ((0, 0, 0),), ((0, 0), (0, 1, 0)), ((0, 0), ()), (((0, 0),),), ((0, 0), "01"),
        {(0, 0): (0, 1)}, {0: (0, 0)}, ({0: 0, 1: 0},), "((0, 0),)", "floor 0,0", ((0, (0,)),), ((0, [0]),),
    ]


def lyings_wrong():
    """Things that are near to lyings, and none."""
    good = model.lyings()
    triples = [(low, north, east) for low in range(-1, 7) for north in range(-1, 7) for east in range(-1, 7)]
    return odd_things() + [triple for triple in triples if triple not in good] + [
        (False, 1, 2), (0, True, 2), (False, True, 2), (True, 2, 0), (2, False, True), (1, False, 3),
        [0, 1, 2], [1, 2, 0], (0, 1), (0, 1, 2, 3), (0, 1, 2, 0), (0, 1, None), (0, 1, "2"), "012",
        ("0", "1", "2"), ((0, 1, 2),), [(0, 1, 2)], {0: 0, 1: 1, 2: 2}, (0, 1, [2]), (0, 1, (2,)), (0, 1, {}),
        (0, 1, 9999999999999), (-9999999999999, 1, 2), ((0, 0), (0, 1, 2)), 12,
    ]


def cells_wrong(floor):
    """Things that are near to cells of the floor, and none."""
    plain = [(column, line) for column in range(-1, 6) for line in range(-1, 6)]
    first = floor[0]
    return odd_things() + [cell for cell in plain if cell not in floor] + [
        list(first), first + (0,), first[:1], (first,), (str(first[0]), str(first[1])), f"{first[0]},{first[1]}",
        {0: first[0], 1: first[1]}, (first[0], None), (first[0], [first[1]]), floor, (first[0], 9999999999999),
    ] + [tuple(bool(part) if part < 2 else part for part in cell) for cell in floor if min(cell) < 2]


def rows_wrong():
    """Things that are near to rows, and none."""
    return odd_things() + [
        "nesx", "xnes", "n s", " n", "NESW", "nesW", "n,e", "-", "n-", "n\ne", "nn2", ("n", "e", "s"),
        ["n", "e", "s"], {"n": 0, "e": 1}, "north", "nesw" * 15 + "x", ("",), [""], ("nesw",), ("n" * 60 + " "),
    ]


def letters_wrong():
    """Things that are near to letters, and none."""
    return odd_things() + [
        "", "ne", "es", "sw", "nn", "nesw", "N", "E", "S", "W", "n ", " n", "u", "d", ("n",), ["n"], {"n": "n"},
        0, 1, 2, 3, "north", "east", ("n", "e", "s", "w"),
    ]


def stands_wrong(floor):
    """Things that are near to stands of the floor, and none."""
    first = floor[0]
    return odd_things() + [(cell, LYING) for cell in cells_wrong(floor)] + [
        (first, how) for how in lyings_wrong()
    ] + [
        [first, LYING], (first,), (first, LYING, 0), (LYING, first), (first, LYING, first), first + LYING,
        ((first, LYING),), first, LYING, {first: LYING}, {0: first, 1: LYING}, (first, None), (None, LYING), (),
    ]


def marks_wrong(floor):
    """Things that are near to marks of the floor, and none."""
    many = 6 + len(floor)
    good = tuple(range(many))
    put = [1000, -1, 1001, 9999999999999, -9999999999999, True, False, None, "0", "", (), (0,), [], [0], {}]
    return odd_things() + [
        good[:at] + (part,) + good[at + 1:] for at in (0, 5, 6, many - 1) for part in put
    ] + [
        good[:-1], good + (0,), good[:6], good[6:], (), (0,) * (many - 1), (0,) * (many + 1), (999,) * (many + 1),
        list(good), [0] * many, (True,) * many, (False,) * many, (good,), "0" * many, dict(enumerate(good)),
        (good[:6], good[6:]), good + good, tuple(str(mark) for mark in good), (1000,) * many, (-1,) * many,
    ]


def marks_plain(floor):
    """Marks that are all unlike, none of them the number of its spot."""
    return tuple(100 + 7 * spot for spot in range(6 + len(floor)))


def rows_up_to(most):
    rows = [""]
    for row in rows:
        if len(row) < most:
            rows.extend(row + letter for letter in "nesw")
    return rows


def stands(floor):
    return [(cell, how) for cell in floor for how in model.lyings()]


def let_row(chance, floor, cell, most):
    """A row of at most so many rolls that is let; shorter only where no roll is."""
    row = ""
    while len(row) < most:
        ways = [letter for letter in "nesw" if model.step(cell, letter) in floor]
        if not ways:
            return row
        letter = chance.choice(ways)
        row += letter
        cell = model.step(cell, letter)
    return row


def long_walks(many):
    """Tuples (floor, cell, lying, row), the same at each call, the row let and of up to sixty rolls."""
    chance = random.Random(20)
    cells = [(column, line) for column in range(4) for line in range(4)]
    walks = []
    for at in range(many):
        if at % 2:
            floor = FLOORS[at // 2 % len(FLOORS)]
        else:
            floor = tuple(sorted(chance.sample(cells, chance.randint(1, 9))))
        cell = chance.choice(floor)
        row = let_row(chance, floor, cell, chance.randint(0, 60))
        walks.append((floor, cell, chance.choice(model.lyings()), row))
    return walks
