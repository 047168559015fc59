"""A second, slow telling of two cubes that go by turns, by names of marks and by lists of all that come of some.

It shares no code with the program.
"""

import itertools

from tests import model, samples

# Those on which two cubes find room.
FLOORS = tuple(floor for floor in samples.FLOORS if len(floor) > 1)


def turns(cubes, letters):
    """Turns as they are written by two texts of as many signs."""
    return tuple((int(cube), letter) for cube, letter in zip(cubes, letters, strict=True))


def pairs(floor):
    """Some pairs of the floor: each two unlike cells, with lyings that go on from one to the next."""
    hows = itertools.cycle(model.lyings())
    for one, other in itertools.permutations(floor, 2):
        yield ((one, next(hows)), (other, next(hows)))


def play(floor, pair, turns, marks):
    """The first place of a turn that isn't let, or None; the pair and the marks behind the turns ahead of it."""
    where = [stand[0] for stand in pair]
    sides = [model.sides(stand[1]) for stand in pair]
    faces = [dict(enumerate(marks[:6])), dict(enumerate(marks[6:12]))]
    ground = dict(zip(sorted(floor), marks[12:]))
    stopped = None
    for at, (cube, letter) in enumerate(turns):
        to = model.step(where[cube], letter)
        if to not in ground or to in where:
            stopped = at
            break
        where[cube] = to
        sides[cube] = model.roll(sides[cube], letter)
        low = sides[cube]["low"]
        faces[cube][low], ground[to] = ground[to], faces[cube][low]
    behind = tuple((cell, model.lying(of)) for cell, of in zip(where, sides))
    return stopped, behind, tuple(faces[0].values()) + tuple(faces[1].values()) + tuple(ground.values())


def is_let(floor, pair, turns):
    return play(floor, pair, turns, (0,) * 21)[0] is None


def exchange(floor, pair, turns):
    names = list(range(12 + len(floor)))
    behind = play(floor, pair, turns, names)[2]
    return tuple(behind.index(name) for name in names)


def cells_of(pair, turns):
    """Of each turn the two cells that it leaves and to which it leads."""
    where = [stand[0] for stand in pair]
    cells = []
    for cube, letter in turns:
        to = model.step(where[cube], letter)
        cells.append((where[cube], to))
        where[cube] = to
    return cells


def neighbours(pair, turns):
    """All turns that one exchange of two neighbouring ones makes of these."""
    cells = cells_of(pair, turns)
    for at in range(len(turns) - 1):
        if turns[at][0] != turns[at + 1][0] and len({*cells[at], *cells[at + 1]}) == 4:
            yield turns[:at] + (turns[at + 1], turns[at]) + turns[at + 2:]


def all_of(pair, turns):
    """All turns that come of these, by one exchange behind the other."""
    found = {turns}
    edge = [turns]
    while edge:
        edge = [other for one in edge for other in neighbours(pair, one) if other not in found]
        edge = list(dict.fromkeys(edge))
        found.update(edge)
    return found


def let_turns(chance, floor, pair, most):
    """Turns of at most so many that are let; fewer only where none is."""
    turns = ()
    while len(turns) < most:
        ways = [
            (cube, letter) for cube, letter in itertools.product((0, 1), "nesw")
            if is_let(floor, pair, turns + ((cube, letter),))
        ]
        if not ways:
            break
        turns += (chance.choice(ways),)
    return turns


def turns_up_to(most):
    lots = [()]
    for turns in lots:
        if len(turns) < most:
            lots.extend(turns + (turn,) for turn in itertools.product((0, 1), "nesw"))
    return lots
