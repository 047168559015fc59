"""Marks that rows bring to wished spots, and marks that none does."""

from tumblemarks.floors import (
    is_cell_of, is_lying, is_rising, is_row, let_letters, need_floor, need_stand, place_off, rolled_stand,
)
from tumblemarks.marks import exchange, is_spot, need_spot, spots_of, trade_at, traded_spot
from tumblemarks.ways import reached


def rolled_mark(floor, here, letter):
    """Tell what a roll makes of (cell, lying, spot): the cube's stand and the spot of one mark."""
    cell, lying, spot = here
    stand = rolled_stand((cell, lying), letter)
    return (stand[0], stand[1], traded_spot(trade_at(floor, stand), spot))


def marks_reached(floor, stand, spot):
    """Tell all (cell, lying, spot) to which rows lead, each with its shortest row."""
    return reached(floor, (stand[0], stand[1], spot), lambda here, letter: rolled_mark(floor, here, letter))


def does_bring(floor, stand, spot, to, row):
    """Tell whether a row is let and brings the mark of one spot to the other."""
    return place_off(floor, stand[0], row) is None and exchange(floor, stand, row)[spot] == to


def is_mark_place(floor, thing):
    """Tell of anything whether it is (cell, lying, spot) of the floor."""
    if not isinstance(thing, tuple) or len(thing) != 3:
        return False
    cell, lying, spot = thing
    return is_cell_of(floor, cell) and is_lying(lying) and is_spot(floor, spot)


def is_lot(floor, thing):
    """Tell of anything whether it is a rising tuple of tuples (cell, lying, spot) of the floor."""
    if not isinstance(thing, tuple):
        return False
    return all([is_mark_place(floor, part) for part in thing]) and is_rising(thing)


def is_closed(floor, lot):
    """Tell whether each roll that is let leads from each of the lot to one of it."""
    held = {here: True for here in lot}
    for here in lot:
        for letter in let_letters(floor, here[0]):
            if rolled_mark(floor, here, letter) not in held:
                return False
    return True


def does_shut_out(floor, start, to, lot):
    """Tell whether a lot shows that no row brings the mark from the start to the spot."""
    return start in lot and all([here[2] != to for here in lot]) and is_closed(floor, lot)


def need_wish(floor, stand, spot, to):
    """Refuse what may not be asked of a mark and a wished spot."""
    need_floor(floor)
    need_stand(floor, stand)
    need_spot(floor, spot)
    need_spot(floor, to)


def bring(floor, stand, spot, to):
    """Tell the shortest row that brings the mark of one spot to the other, or the lot that shows that none does."""
    need_wish(floor, stand, spot, to)
    found = marks_reached(floor, stand, spot)
    # They are in the order of their rows, so the first that will do has the least of the shortest ones.
    for here, row in found.items():
        if here[2] == to:
            return ("row", row)
    return ("never", tuple(sorted(found)))


def shows_bring(floor, stand, spot, to, thing):
    """Tell of anything whether it shows that a row brings the mark there, or that none does."""
    need_wish(floor, stand, spot, to)
    if not isinstance(thing, tuple) or len(thing) != 2:
        return False
    word, shown = thing
    if word == "row":
        return is_row(shown) and does_bring(floor, stand, spot, to, shown)
    if word == "never":
        return is_lot(floor, shown) and does_shut_out(floor, (stand[0], stand[1], spot), to, shown)
    return False


def may_come(floor, stand, spot):
    """Tell all spots to which rows can bring the mark of the spot, its own too."""
    need_floor(floor)
    need_stand(floor, stand)
    need_spot(floor, spot)
    come = {here[2]: True for here in marks_reached(floor, stand, spot)}
    return tuple(sorted(come))


def still(floor, stand):
    """Tell the spots whose marks no row ever moves."""
    need_floor(floor)
    need_stand(floor, stand)
    moved = {}
    for here in reached(floor, stand, rolled_stand):
        for letter in let_letters(floor, here[0]):
            for spot in trade_at(floor, rolled_stand(here, letter)):
                moved[spot] = True
    return tuple([spot for spot in spots_of(floor) if spot not in moved])
