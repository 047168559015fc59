"""Floors, how a cube lies, and rows of rolls from cell to cell."""

from tumblemarks.errors import NoCell, NoFloor, NoLying, NoRoll, NoRow, NoStand, NotLet

LAST_LINE = 3
MOST_CELLS = 9
OPPOSITE_SUM = 5
LETTERS = ("n", "e", "s", "w")
STEPS = {"n": (0, 1), "e": (1, 0), "s": (0, -1), "w": (-1, 0)}

# Written out so that being a lying is one look-up: all that rolls make of (0, 1, 2).
LYINGS = (
    (0, 1, 2), (0, 2, 4), (0, 3, 1), (0, 4, 3),
    (1, 0, 3), (1, 2, 0), (1, 3, 5), (1, 5, 2),
    (2, 0, 1), (2, 1, 5), (2, 4, 0), (2, 5, 4),
    (3, 0, 4), (3, 1, 0), (3, 4, 5), (3, 5, 1),
    (4, 0, 2), (4, 2, 5), (4, 3, 0), (4, 5, 3),
    (5, 1, 3), (5, 2, 1), (5, 3, 4), (5, 4, 2),
)


def is_whole(thing, most):
    """Tell whether thing is a whole number from 0 to most."""
    # To Python True and False are ints; here they stand for no number.
    return isinstance(thing, int) and not isinstance(thing, bool) and 0 <= thing <= most


def is_cell(thing):
    """Tell of anything whether it is a cell."""
    if not isinstance(thing, tuple) or len(thing) != 2:
        return False
    column, line = thing
    return is_whole(column, LAST_LINE) and is_whole(line, LAST_LINE)


def every_cell():
    """Tell all cells that a floor may have, in rising order."""
    return [(column, line) for column in range(LAST_LINE + 1) for line in range(LAST_LINE + 1)]


def is_rising(things):
    """Tell whether each thing is greater than the one ahead."""
    return all([one < other for one, other in zip(things, things[1:])])


def is_floor(thing):
    """Tell of anything whether it is a floor."""
    if not isinstance(thing, tuple) or not 1 <= len(thing) <= MOST_CELLS:
        return False
    return all([is_cell(part) for part in thing]) and is_rising(thing)


def is_cell_of(floor, thing):
    """Tell of anything whether it is a cell of the floor."""
    return is_cell(thing) and thing in floor


def is_lying(thing):
    """Tell of anything whether it is a lying."""
    if not isinstance(thing, tuple):
        return False
    return all([is_whole(face, OPPOSITE_SUM) for face in thing]) and thing in LYINGS


def is_stand(floor, thing):
    """Tell of anything whether it is a stand of the floor."""
    if not isinstance(thing, tuple) or len(thing) != 2:
        return False
    cell, lying = thing
    return is_cell_of(floor, cell) and is_lying(lying)


def is_letter(thing):
    """Tell of anything whether it is the letter of a roll."""
    return isinstance(thing, str) and thing in LETTERS


def is_row(thing):
    """Tell of anything whether it is a row, let or not."""
    return isinstance(thing, str) and all([is_letter(sign) for sign in thing])


def need_floor(floor):
    """Refuse what is no floor."""
    if not is_floor(floor):
        raise NoFloor()


def need_cell(floor, cell):
    """Refuse what is no cell of the floor."""
    if not is_cell_of(floor, cell):
        raise NoCell()


def need_lying(lying):
    """Refuse what is no lying."""
    if not is_lying(lying):
        raise NoLying()


def need_stand(floor, stand):
    """Refuse what is no stand of the floor."""
    if not is_stand(floor, stand):
        raise NoStand()


def need_letter(letter):
    """Refuse what is no letter of a roll."""
    if not is_letter(letter):
        raise NoRoll()


def need_row(row):
    """Refuse what is no row."""
    if not is_row(row):
        raise NoRow()


def need_let(floor, cell, row):
    """Refuse a row that is not let from the cell."""
    if place_off(floor, cell, row) is not None:
        raise NotLet()


def rolled_cell(cell, letter):
    """Tell the cell to which a roll leads, on the floor or off it."""
    column, line = cell
    eastward, northward = STEPS[letter]
    return (column + eastward, line + northward)


def rolled_lying(lying, letter):
    """Tell the lying behind a roll."""
    low, north, east = lying
    if letter == "n":
        return (north, OPPOSITE_SUM - low, east)
    if letter == "s":
        return (OPPOSITE_SUM - north, low, east)
    if letter == "e":
        return (east, north, OPPOSITE_SUM - low)
    return (OPPOSITE_SUM - east, north, low)


def rolled_stand(stand, letter):
    """Tell the stand behind a roll."""
    cell, lying = stand
    return (rolled_cell(cell, letter), rolled_lying(lying, letter))


def let_letters(floor, cell):
    """Tell the letters, in rising order, of the rolls that lead from the cell to one of the floor."""
    return [letter for letter in sorted(LETTERS) if rolled_cell(cell, letter) in floor]


def place_off(floor, cell, row):
    """Tell the first place of a roll that leads off the floor, None where the row is let."""
    here = cell
    for place, letter in enumerate(row):
        here = rolled_cell(here, letter)
        if here not in floor:
            return place
    return None


def lying_behind(lying, letter):
    """Tell the lying behind the roll of this letter."""
    need_lying(lying)
    need_letter(letter)
    return rolled_lying(lying, letter)


def first_off(floor, cell, row):
    """Tell the first place, from 0, of a roll that leads off the floor, None where there is none."""
    need_floor(floor)
    need_cell(floor, cell)
    need_row(row)
    return place_off(floor, cell, row)


def stand_behind(floor, cell, lying, row):
    """Tell the stand behind a row that is let."""
    need_floor(floor)
    need_cell(floor, cell)
    need_lying(lying)
    need_row(row)
    need_let(floor, cell, row)
    stand = (cell, lying)
    for letter in row:
        stand = rolled_stand(stand, letter)
    return stand
