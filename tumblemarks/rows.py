"""Rows that do the same, and rows that undo a row."""

from tumblemarks.floors import need_floor, need_let, need_row, need_stand, place_off, rolled_stand, stand_behind
from tumblemarks.marks import exchange, held_behind, spots_of
from tumblemarks.ways import reached

MOST_SHORT = 6
BACK = {"n": "s", "e": "w", "s": "n", "w": "e"}


def need_rows(floor, stand, one, other):
    """Refuse what may not be asked of two rows from a stand."""
    need_floor(floor)
    need_stand(floor, stand)
    need_row(one)
    need_row(other)


def rolled_all(floor, here, letter):
    """Tell what a roll makes of (cell, lying, held): the cube's stand and what each spot holds."""
    cell, lying, held = here
    stand = rolled_stand((cell, lying), letter)
    return (stand[0], stand[1], held_behind(floor, (cell, lying), letter, held))


def all_behind(floor, stand, row):
    """Tell (cell, lying, held) behind a row that is let, each spot holding its own number at first."""
    cell, lying = stand_behind(floor, stand[0], stand[1], row)
    return (cell, lying, held_behind(floor, stand, row, spots_of(floor)))


def marks_apart(one, other):
    """Tell the least spot whose mark two exchanges bring to unlike spots, and these; that all is the same else."""
    for spot, (first, second) in enumerate(zip(one, other)):
        if first != second:
            return ("marks", spot, first, second)
    return ("same",)


def apart(floor, stand, one, other):
    """Tell that two rows do the same from the stand, or what parts them."""
    need_rows(floor, stand, one, other)
    for number, row in enumerate((one, other)):
        if place_off(floor, stand[0], row) is not None:
            return ("let", number)
    first = stand_behind(floor, stand[0], stand[1], one)
    second = stand_behind(floor, stand[0], stand[1], other)
    if first != second:
        return ("stands", first, second)
    return marks_apart(exchange(floor, stand, one), exchange(floor, stand, other))


def shortest(floor, stand, row):
    """Tell the shortest row of at most six rolls that does the same, of as short ones the least, None without one."""
    need_floor(floor)
    need_stand(floor, stand)
    need_row(row)
    need_let(floor, stand[0], row)
    start = all_behind(floor, stand, "")
    short = reached(floor, start, lambda here, letter: rolled_all(floor, here, letter), MOST_SHORT)
    return short.get(all_behind(floor, stand, row))


def does_undo(floor, stand, row, other):
    """Tell whether the other row undoes a row that is let."""
    need_rows(floor, stand, row, other)
    need_let(floor, stand[0], row)
    if place_off(floor, stand[0], row + other) is not None:
        return False
    return all_behind(floor, stand, row + other) == all_behind(floor, stand, "")


def undoing(floor, stand, row):
    """Tell a row that undoes a row that is let."""
    need_floor(floor)
    need_stand(floor, stand)
    need_row(row)
    need_let(floor, stand[0], row)
    # Back, again, back: with the roll itself the two trades of its ends are each done twice, and as they have no
    # spot in common, that is nothing.
    return "".join([BACK[letter] + letter + BACK[letter] for letter in row[::-1]])
