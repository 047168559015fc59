"""What the tests hand in, and ways to ask with it."""

import random

from tests import model

LYING = (0, 1, 2)
DOT = ((2, 1),)
LINE = ((0, 2), (1, 2), (2, 2), (3, 2))
POST = ((3, 0), (3, 1), (3, 2), (3, 3))
CORNER = ((0, 0), (0, 1), (1, 0))
SQUARE = ((0, 0), (0, 1), (1, 0), (1, 1))
RING = ((1, 1), (1, 2), (1, 3), (2, 1), (2, 3), (3, 1), (3, 2), (3, 3))
NINE = ((0, 0), (0, 1), (0, 2), (1, 0), (1, 1), (1, 2), (2, 0), (2, 1), (2, 2))
SPREAD = ((0, 0), (0, 3), (1, 1), (1, 2), (2, 0), (3, 0), (3, 3))
BACK = {"n": "s", "e": "w", "s": "n", "w": "e"}
FLOORS = (DOT, LINE, POST, CORNER, SQUARE, RING, NINE, SPREAD)


def nested(inmost, make, depth):
    thing = inmost
    for _ in range(depth):
        thing = make(thing)
    return thing


# Made anew at each call, so that no test can spoil another one's.
def odd_things():
    """Things of many kinds; none is a floor, cell, lying, stand, row or marks, nor a letter."""
    return [
        None, True, False, 0, 1, -1, 5, 999, 1000, 9999999999999, -9999999999999,
        " ", "N", "x", "north", "n e", "n\n", "\n", "ne ", "nE", "0", "(0, 0)", "None", "~" * 1000,
        [], [0], [0, 0], [(0, 0)], ["n"], [[0, 0]], [0, 1, 2], [None], ["n", "e"], list(range(6000)),
        (), (0,), (0, 0, 0, 0), ("n",), ("n", "e"), (None,), ((),), ((), ()), ("", ""), ((0, 0), (0, 0)),
        ("0", "1"), ("0", "1", "2"), ([],), ({},), (0, 1, 2, 3), (0, 1, 3), tuple(range(5990)),
        {}, {0: 0}, {"n": "n"}, {(0, 0): (0, 1)}, {0: 0, 1: 1, 2: 2}, {(0, 0): True},
        nested(0, lambda thing: (thing,), 8), nested("n", lambda thing: [thing], 8),
        nested(None, lambda thing: {0: thing}, 8),
    ]


def floors_wrong():
    """Things that are near to floors, and none."""
    return odd_things() + [
        ((0, 0), (0, 1), (0, 2), (0, 3), (1, 0), (1, 1), (1, 2), (1, 3), (2, 0), (2, 1)),
        ((0, 1), (0, 0)), ((1, 0), (0, 1)), ((0, 0), (0, 2), (0, 1)), ((0, 0), (1, 1), (1, 0), (2, 2)),
        ((0, 0), (0, 0)), ((0, 0), (0, 1), (0, 1)), ((0, 0), (0, 1), (1, 1), (1, 1), (2, 2)), ((1, 1),) * 9,
        ((0, 4),), ((4, 0),), ((0, -1),), ((-1, 0),), ((0, 0), (0, 1), (0, 4)), ((0, 0), (4, 0)),
        ((-1, 0), (0, 0)), ((0, 9999999999999),), ((-9999999999999, 0),),
        ((True, 0),), ((0, False),), ((0, 0), (0, True)), ((False, False),), ((0, 0), (True, 1)), (True,),
        ((0, 0), False), ((0, 0), None), ((0, None),), ((None, 0),), (("0", "0"),), ("00",), ("00", "01"),
        [(0, 0), (0, 1)], [[0, 0], [0, 1]], ([0, 0],), ((0, 0), [0, 1]), ([0, 0], (0, 1)), [((0, 0),)],
        (0, 0), (0, 1), ((0,),), ((0, 0, 0),), ((0, 0), (0, 1, 0)), ((0, 0), ()), (((0, 0),),), ((0, 0), "01"),
        {(0, 0): (0, 1)}, {0: (0, 0)}, ({0: 0, 1: 0},), "((0, 0),)", "floor 0,0", ((0, (0,)),), ((0, [0]),),
    ]


def lyings_wrong():
    """Things that are near to lyings, and none."""
    good = model.lyings()
    triples = [(low, north, east) for low in range(-1, 7) for north in range(-1, 7) for east in range(-1, 7)]
    return odd_things() + [triple for triple in triples if triple not in good] + [
        (False, 1, 2), (0, True, 2), (False, True, 2), (True, 2, 0), (2, False, True), (1, False, 3),
        [0, 1, 2], [1, 2, 0], (0, 1), (0, 1, 2, 3), (0, 1, 2, 0), (0, 1, None), (0, 1, "2"), "012",
        ("0", "1", "2"), ((0, 1, 2),), [(0, 1, 2)], {0: 0, 1: 1, 2: 2}, (0, 1, [2]), (0, 1, (2,)), (0, 1, {}),
        (0, 1, 9999999999999), (-9999999999999, 1, 2), ((0, 0), (0, 1, 2)), 12,
    ]


def cells_wrong(floor):
    """Things that are near to cells of the floor, and none."""
    plain = [(column, line) for column in range(-1, 6) for line in range(-1, 6)]
    first = floor[0]
    return odd_things() + [cell for cell in plain if cell not in floor] + [
        list(first), first + (0,), first[:1], (first,), (str(first[0]), str(first[1])), f"{first[0]},{first[1]}",
        {0: first[0], 1: first[1]}, (first[0], None), (first[0], [first[1]]), floor, (first[0], 9999999999999),
    ] + [tuple(bool(part) if part < 2 else part for part in cell) for cell in floor if min(cell) < 2]


def rows_wrong():
    """Things that are near to rows, and none."""
    return odd_things() + [
        "nesx", "xnes", "n s", " n", "NESW", "nesW", "n,e", "-", "n-", "n\ne", "nn2", ("n", "e", "s"),
        ["n", "e", "s"], {"n": 0, "e": 1}, "north", "nesw" * 15 + "x", ("",), [""], ("nesw",), ("n" * 60 + " "),
    ]


def letters_wrong():
    """Things that are near to letters, and none."""
    return odd_things() + [
        "", "ne", "es", "sw", "nn", "nesw", "N", "E", "S", "W", "n ", " n", "u", "d", ("n",), ["n"], {"n": "n"},
        0, 1, 2, 3, "north", "east", ("n", "e", "s", "w"),
    ]


def stands_wrong(floor):
    """Things that are near to stands of the floor, and none."""
    first = floor[0]
    return odd_things() + [(cell, LYING) for cell in cells_wrong(floor)] + [
        (first, how) for how in lyings_wrong()
    ] + [
        [first, LYING], (first,), (first, LYING, 0), (LYING, first), (first, LYING, first), first + LYING,
        ((first, LYING),), first, LYING, {first: LYING}, {0: first, 1: LYING}, (first, None), (None, LYING), (),
    ]


def marks_wrong(floor):
    """Things that are near to marks of the floor, and none."""
    many = 6 + len(floor)
    good = tuple(range(many))
    put = [1000, -1, 1001, 9999999999999, -9999999999999, True, False, None, "0", "", (), (0,), [], [0], {}]
    return odd_things() + [
        good[:at] + (part,) + good[at + 1:] for at in (0, 5, 6, many - 1) for part in put
    ] + [
        good[:-1], good + (0,), good[:6], good[6:], (), (0,) * (many - 1), (0,) * (many + 1), (999,) * (many + 1),
        list(good), [0] * many, (True,) * many, (False,) * many, (good,), "0" * many, dict(enumerate(good)),
        (good[:6], good[6:]), good + good, tuple(str(mark) for mark in good), (1000,) * many, (-1,) * many,
    ]


def odd_but(right):
    """Things of many kinds without those that are right here, truths and numbers being unlike."""
    written = {repr(thing) for thing in right}
    return [thing for thing in odd_things() if repr(thing) not in written]


def spots_wrong(floor):
    """Things that are near to numbers of spots, and none."""
    many = 6 + len(floor)
    return odd_but(range(many)) + [
        many, many + 1, -1, -many, 1000, True, False, None, "0", "6", (0,), [0], (6,), {0: 0}, floor[0], floor, "n",
    ]


def times_wrong():
    """Things that are near to numbers of times, and none."""
    return odd_but(range(1001)) + [
        -1, -2, 1000000000001, 1000000000002, 9999999999999, -1000000000000, True, False, None, "1", "", (1,), [1],
        (), [], {1: 1}, "1000000000000",
    ]


def looks_wrong(floor, row):
    """Things that are near to looks at the row, and none."""
    cell = floor[-1]
    good = (0, cell, 5)
    beats = [-1, len(row) + 1, len(row) + 2, None, True, False, "0", (0,), [0], 9999999999999, ""]
    marks = [-1, 1000, 1001, None, True, False, "5", (5,), [5], 9999999999999, -9999999999999, ""]
    lots = [(beat, cell, 5) for beat in beats] + [(0, cell, mark) for mark in marks] + [
        (0, other, 5) for other in cells_wrong(floor)
    ] + [
        list(good), good[:2], good[1:], good + (0,), (good,), (cell, 0, 5), (0, 5, cell), (5, cell), (), None, "",
        0, True, {0: 0, 1: cell, 2: 5}, (0, cell[0], cell[1], 5), (None, None, None),
    ]
    put = [(look,) for look in lots] + [(good, look) for look in lots] + [(look, good) for look in lots]
    return odd_but([()]) + put + [
        good, [good], [], list((good,) * 12), (good,) * 13, (good,) * 14, (good,) * 24, {}, {0: good}, {good: good}, "",
        (good,) * 11 + (None,), ((good,),), ((good, good),),
    ]


def watched_wrong(floor):
    """Things that are near to rising tuples of cells of the floor, and none."""
    first = floor[0]
    near = [first, [first], [], list(floor), (list(first),), (first, first), floor + floor[-1:], floor[:1] + floor]
    near += [{}, {first: first}, "", (floor,), ((first,),), (None,), (first, None), (None, first), (first + (0,),)]
    near += [floor[::-1]] if len(floor) > 1 else []
    near += [(cell,) for cell in cells_wrong(floor)] + [floor[:-1] + (cell,) for cell in cells_wrong(floor)]
    return odd_but([()]) + near


def pairs_wrong(floor):
    """Things that are near to pairs of the floor, which has two cells or more, and none."""
    one = (floor[0], LYING)
    other = (floor[-1], (4, 5, 3))
    return odd_things() + [(stand, other) for stand in stands_wrong(floor)] + [
        (one, stand) for stand in stands_wrong(floor)
    ] + [
        (one, one), (other, other), (one, (floor[0], (4, 5, 3))), (other, (floor[-1], LYING)), [one, other], (one,),
        (one, other, one), (one, other, 0), one, one + other, ((one, other),), {0: one, 1: other}, {one: other},
        (one, None), (list(one), other), (one, list(other)), (floor[0], floor[-1]), (LYING, (4, 5, 3)), ((), ()),
    ]


def turns_wrong():
    """Things that are near to turns, and none."""
    good = (0, "n")
    cubes = [2, -1, None, True, False, "0", "", (0,), [0], 9999999999999, "n"]
    lots = [(cube, "n") for cube in cubes] + [(1, letter) for letter in letters_wrong()] + [
        ("n", 0), (0,), ("n",), (0, "n", 0), (0, "n", "n"), [0, "n"], {0: "n"}, (0, 1, "n"), "0n", "n", 0, None, True,
        (), (good,), ((0, "n"), 1),
    ]
    put = [(turn,) for turn in lots] + [(good, turn) for turn in lots] + [(turn, good) for turn in lots]
    return odd_but([()]) + put + [
        good, [good], [], [good, good], (good,) * 25, (good,) * 26, (good,) * 48, {}, {0: "n"}, {good: good}, "", "n",
        (good,) * 23 + (None,), (good,) * 24 + (None,), ((good,),), ((good, good),), (0, "n", 1, "s"),
    ]


# What is put in the place of a part, or beside it, where a thing that was told is to be spoilt.
PARTS = (0, 1, 6, -1, 999, 1000, True, False, None, "", "n", "row", "never", "first", "clash", (), [], {}, (0,), [0])


def spoilt(thing, deep=3):
    """What was told with one part otherwise, left out, twice or put in, anywhere in it."""
    if type(thing) is str:
        for at in range(len(thing) + 1):
            for sign in ("n", "e", "s", "w", "x", " "):
                yield thing[:at] + sign + thing[at:]
                yield thing[:at] + sign + thing[at + 1:]
            yield thing[:at] + thing[at + 1:]
    if type(thing) is not tuple or deep == 0:
        return
    yield list(thing)
    for at in range(len(thing) + 1):
        for part in PARTS:
            yield thing[:at] + (part,) + thing[at:]
            yield thing[:at] + (part,) + thing[at + 1:]
        yield thing[:at] + thing[at + 1:]
        yield thing[:at] + thing[at:at + 1] + thing[at:]
        yield thing[:at] + thing[at:at + 2][::-1] + thing[at + 2:]
    for at, part in enumerate(thing):
        for other in spoilt(part, deep - 1):
            yield thing[:at] + (other,) + thing[at + 1:]


def marks_plain(floor):
    """Marks that are all unlike, none of them the number of its spot."""
    return tuple(100 + 7 * spot for spot in range(6 + len(floor)))


def rows_up_to(most):
    rows = [""]
    for row in rows:
        if len(row) < most:
            rows.extend(row + letter for letter in "nesw")
    return rows


def stands(floor):
    return [(cell, how) for cell in floor for how in model.lyings()]


def let_row(chance, floor, cell, most):
    """A row of at most so many rolls that is let; shorter only where no roll is."""
    row = ""
    while len(row) < most:
        ways = [letter for letter in "nesw" if model.step(cell, letter) in floor]
        if not ways:
            return row
        letter = chance.choice(ways)
        row += letter
        cell = model.step(cell, letter)
    return row


def round_walks(many):
    """Tuples (floor, cell, lying, row), the same at each call, the row ending where it began."""
    walks = []
    for floor, cell, how, row in long_walks(many):
        for at in range(0, len(row) + 1, 1 + len(row) // 4):
            there = model.play(floor, cell, how, row[:at], (0,) * 15)[1]
            back = model.least_rows(floor, (there[0], LYING))
            home = min(back[stand] for stand in back if stand[0] == cell)
            if at + len(home) <= 60:
                walks.append((floor, cell, how, row[:at] + home))
    return walks


def long_walks(many):
    """Tuples (floor, cell, lying, row), the same at each call, the row let and of up to sixty rolls."""
    chance = random.Random(20)
    cells = [(column, line) for column in range(4) for line in range(4)]
    walks = []
    for at in range(many):
        if at % 2:
            floor = FLOORS[at // 2 % len(FLOORS)]
        else:
            floor = tuple(sorted(chance.sample(cells, chance.randint(1, 9))))
        cell = chance.choice(floor)
        row = let_row(chance, floor, cell, chance.randint(0, 60))
        walks.append((floor, cell, chance.choice(model.lyings()), row))
    return walks
