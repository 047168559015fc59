"""A second, slow telling of the same, by sides of the cube and by names of marks.

The tests compare the program with it. It shares no code with the program.
"""

STEPS = {"n": (0, 1), "e": (1, 0), "s": (0, -1), "w": (-1, 0)}

# By a roll the first named side comes to the second named one, and so on round.
SIDES = {
    "n": ("north", "low", "south", "top"),
    "s": ("south", "low", "north", "top"),
    "e": ("east", "low", "west", "top"),
    "w": ("west", "low", "east", "top"),
}


def sides(lying):
    low, north, east = lying
    return {"low": low, "north": north, "east": east, "top": 5 - low, "south": 5 - north, "west": 5 - east}


def lying(of):
    return (of["low"], of["north"], of["east"])


def roll(of, letter):
    turned = dict(of)
    ring = SIDES[letter]
    for at in range(4):
        turned[ring[(at + 1) % 4]] = of[ring[at]]
    return turned


def lyings():
    found = [(0, 1, 2)]
    for one in found:
        for letter in "nesw":
            other = lying(roll(sides(one), letter))
            if other not in found:
                found.append(other)
    return sorted(found)


def step(cell, letter):
    return (cell[0] + STEPS[letter][0], cell[1] + STEPS[letter][1])


def play(floor, cell, how, row, marks):
    """The first place that leads off, or None; the stand and the marks behind the rolls ahead of it."""
    of = sides(how)
    faces = dict(enumerate(marks[:6]))
    ground = dict(zip(sorted(floor), marks[6:]))
    for at, letter in enumerate(row):
        to = step(cell, letter)
        if to not in ground:
            return at, (cell, lying(of)), tuple(faces.values()) + tuple(ground.values())
        cell = to
        of = roll(of, letter)
        faces[of["low"]], ground[cell] = ground[cell], faces[of["low"]]
    return None, (cell, lying(of)), tuple(faces.values()) + tuple(ground.values())


def exchange(floor, cell, how, row):
    names = list(range(6 + len(floor)))
    behind = play(floor, cell, how, row, names)[2]
    return tuple(behind.index(name) for name in names)


def order(exchanged):
    start = tuple(range(len(exchanged)))
    now, times = exchanged, 1
    while now != start:
        now, times = tuple(exchanged[spot] for spot in now), times + 1
    return times


def rounds(exchanged):
    found = set()
    for first in range(len(exchanged)):
        spots = [first]
        while exchanged[spots[-1]] != first:
            spots.append(exchanged[spots[-1]])
        least = spots.index(min(spots))
        if len(spots) > 1:
            found.add(tuple(spots[least:] + spots[:least]))
    return tuple(sorted(found))


def is_even(exchanged):
    """By counting the pairs that stand the wrong way about, not by rounds."""
    wrong = 0
    for one in range(len(exchanged)):
        for other in range(one + 1, len(exchanged)):
            wrong += exchanged[one] > exchanged[other]
    return wrong % 2 == 0
