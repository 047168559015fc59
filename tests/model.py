"""A second, slow telling of the same, by sides of the cube and by names of marks.

The tests compare the program with it. It shares no code with the program.
"""

import functools
import re

STEPS = {"n": (0, 1), "e": (1, 0), "s": (0, -1), "w": (-1, 0)}

# By a roll the first named side comes to the second named one, and so on round.
SIDES = {
    "n": ("north", "low", "south", "top"),
    "s": ("south", "low", "north", "top"),
    "e": ("east", "low", "west", "top"),
    "w": ("west", "low", "east", "top"),
}


def sides(lying):
    low, north, east = lying
    return {"low": low, "north": north, "east": east, "top": 5 - low, "south": 5 - north, "west": 5 - east}


def lying(of):
    return (of["low"], of["north"], of["east"])


def roll(of, letter):
    turned = dict(of)
    ring = SIDES[letter]
    for at in range(4):
        turned[ring[(at + 1) % 4]] = of[ring[at]]
    return turned


def lyings():
    found = [(0, 1, 2)]
    for one in found:
        for letter in "nesw":
            other = lying(roll(sides(one), letter))
            if other not in found:
                found.append(other)
    return sorted(found)


def step(cell, letter):
    return (cell[0] + STEPS[letter][0], cell[1] + STEPS[letter][1])


def play(floor, cell, how, row, marks):
    """The first place that leads off, or None; the stand and the marks behind the rolls ahead of it."""
    of = sides(how)
    faces = dict(enumerate(marks[:6]))
    ground = dict(zip(sorted(floor), marks[6:]))
    for at, letter in enumerate(row):
        to = step(cell, letter)
        if to not in ground:
            return at, (cell, lying(of)), tuple(faces.values()) + tuple(ground.values())
        cell = to
        of = roll(of, letter)
        faces[of["low"]], ground[cell] = ground[cell], faces[of["low"]]
    return None, (cell, lying(of)), tuple(faces.values()) + tuple(ground.values())


def exchange(floor, cell, how, row):
    names = list(range(6 + len(floor)))
    behind = play(floor, cell, how, row, names)[2]
    return tuple(behind.index(name) for name in names)


def order(exchanged):
    start = tuple(range(len(exchanged)))
    now, times = exchanged, 1
    while now != start:
        now, times = tuple(exchanged[spot] for spot in now), times + 1
    return times


def rounds(exchanged):
    found = set()
    for first in range(len(exchanged)):
        spots = [first]
        while exchanged[spots[-1]] != first:
            spots.append(exchanged[spots[-1]])
        least = spots.index(min(spots))
        if len(spots) > 1:
            found.add(tuple(spots[least:] + spots[:least]))
    return tuple(sorted(found))


def is_even(exchanged):
    """By counting the pairs that stand the wrong way about, not by rounds."""
    wrong = 0
    for one in range(len(exchanged)):
        for other in range(one + 1, len(exchanged)):
            wrong += exchanged[one] > exchanged[other]
    return wrong % 2 == 0


@functools.lru_cache(maxsize=None)
def led(floor, stand):
    """Of each roll that is let from a stand its letter, the stand behind it and its exchange."""
    let = [letter for letter in "nesw" if play(floor, *stand, letter, (0,) * 15)[0] is None]
    return [(letter, play(floor, *stand, letter, (0,) * 15)[1], exchange(floor, *stand, letter)) for letter in let]


@functools.lru_cache(maxsize=None)
def least_rows(floor, start):
    """All to which rows lead from (cell, lying) or (cell, lying, spot), with the least of the shortest rows.

    Each row is put right, in no order, until there is nothing more to put right.
    """
    rows = {start: ""}
    again = True
    while again:
        again = False
        for here in list(rows):
            for letter, stand, exchanged in led(floor, here[:2]):
                there = stand + tuple(exchanged[spot] for spot in here[2:])
                row = rows[here] + letter
                if there not in rows or (len(row), row) < (len(rows[there]), rows[there]):
                    rows[there] = row
                    again = True
    return rows


def how_often(floor, cell, row, enough=99):
    """How many times a row may be played, but at most enough times."""
    plays = 0
    while plays < enough and play(floor, cell, (0, 1, 2), row, (0,) * 15)[0] is None:
        cell = play(floor, cell, (0, 1, 2), row, (0,) * 15)[1][0]
        plays += 1
    return plays


def far(floor, cell, how, row, times):
    """The stand and the exchange behind so many plays of a row that ends where it began, by doubling."""
    plays = {
        one: (play(floor, cell, one, row, (0,) * 15)[1][1], exchange(floor, cell, one, row)) for one in lyings()
    }
    now = (how, tuple(range(6 + len(floor))))
    while times:
        if times % 2:
            now = together(now, plays)
        plays = {one: together(plays[one], plays) for one in plays}
        times //= 2
    return (cell, now[0]), now[1]


def together(ahead, plays):
    behind = plays[ahead[0]]
    return behind[0], tuple(behind[1][spot] for spot in ahead[1])


def round_of(floor, cell, how, row):
    """By plays put together one by one."""
    marks = tuple(range(6 + len(floor)))
    now, held, times = (cell, how), marks, 0
    while times == 0 or (now, held) != ((cell, how), marks):
        off, now, held = play(floor, *now, row, held)
        assert off is None
        times += 1
    return times


def shows_bring(floor, stand, spot, to, thing):
    if type(thing) is not tuple or len(thing) != 2:
        return False
    if repr(thing[0]) == "'row'" and type(thing[1]) is str and re.fullmatch("[nesw]*", thing[1]):
        marks = tuple(range(6 + len(floor)))
        off, _, behind = play(floor, *stand, thing[1], marks)
        return off is None and behind[to] == spot
    if repr(thing[0]) == "'never'" and type(thing[1]) is tuple:
        return shuts_out(floor, stand + (spot,), to, thing[1])
    return False


@functools.lru_cache(maxsize=None)
def places(floor):
    """All (cell, lying, spot), by how they are written: so no truth is taken for a number."""
    spots = range(6 + len(floor))
    return {repr((cell, how, spot)): (cell, how, spot) for cell in floor for how in lyings() for spot in spots}


def shuts_out(floor, start, to, lot):
    if not all(repr(part) in places(floor) for part in lot):
        return False
    held = set(lot)
    leads = {
        stand + (exchanged[here[2]],) for here in held for _, stand, exchanged in led(floor, here[:2])
    }
    return sorted(held) == list(lot) and start in held and leads <= held and to not in {here[2] for here in held}


def named(floor, stand, row, look):
    """The spot at which the mark that a look saw stood at first."""
    beat, cell, _ = look
    behind = play(floor, *stand, row[:beat], tuple(range(6 + len(floor))))[2]
    return behind[6 + sorted(floor).index(cell)]


def looked(floor, stand, row, looks):
    marks = {}
    for look in looks:
        marks.setdefault(named(floor, stand, row, look), set()).add(look[2])
    if all(len(seen) == 1 for seen in marks.values()):
        return ("first", tuple(min(marks.get(spot, {None})) for spot in range(6 + len(floor))))
    return ("clash", *min(clashes(floor, stand, row, looks)))


def clashes(floor, stand, row, looks):
    return [
        (one, other)
        for other in range(len(looks)) for one in range(other)
        if named(floor, stand, row, looks[one]) == named(floor, stand, row, looks[other])
        and looks[one][2] != looks[other][2]
    ]


def shows_looked(floor, stand, row, looks, thing):
    if type(thing) is not tuple or len(thing) < 2:
        return False
    if repr(thing[0]) == "'first'" and len(thing) == 2 and type(thing[1]) is tuple:
        marks = [repr(mark) for mark in thing[1]]
        if len(marks) != 6 + len(floor) or not set(marks) <= {"None", *(str(mark) for mark in range(1000))}:
            return False
        return all(marks[named(floor, stand, row, look)] == str(look[2]) for look in looks)
    if repr(thing[0]) == "'clash'":
        return repr(thing[1:]) in {repr(pair) for pair in clashes(floor, stand, row, looks)}
    return False


def seen(floor, stand, row, cells):
    """For each spot whose mark ever stands at one of the cells the number of rolls, by rolling till all comes again."""
    names = tuple(range(6 + len(floor)))
    now, held, rolls = stand, names, 0
    firsts = {}
    while True:
        for letter in row:
            note(floor, held, cells, rolls, firsts)
            _, now, held = play(floor, *now, letter, held)
            rolls += 1
        note(floor, held, cells, rolls, firsts)
        if (now, held) == (stand, names):
            return firsts


def note(floor, held, cells, rolls, firsts):
    for cell, name in zip(sorted(floor), held[6:]):
        if cell in cells:
            firsts.setdefault(name, rolls)
