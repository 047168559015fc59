"""Rows that are not let, mended: by rolls left out, or by one more cell."""

from tumblemarks.floors import (
    MOST_CELLS, every_cell, is_rising, is_whole, need_cell, need_floor, need_row, place_off, rolled_cell,
)


def need_asked(floor, cell, row):
    """Refuse what may not be asked of a row from a cell."""
    need_floor(floor)
    need_cell(floor, cell)
    need_row(row)


def fewest_at(floor, cell, letter, behind):
    """Tell the fewest rolls to be left out from this roll on, of the fewest behind it, by cell."""
    there = rolled_cell(cell, letter)
    if there in floor:
        return min(1 + behind[cell], behind[there])
    return 1 + behind[cell]


def fewest_left(floor, row):
    """Tell, for each place of the row and for its end, the fewest rolls to be left out from there on, by cell."""
    tables = [{cell: 0 for cell in floor}]
    for letter in row[::-1]:
        behind = tables[-1]
        tables.append({cell: fewest_at(floor, cell, letter, behind) for cell in floor})
    return tables[::-1]


def without(row, places):
    """Tell what is left of a row without the rolls at these places."""
    out = {place: True for place in places}
    return "".join([letter for place, letter in enumerate(row) if place not in out])


def is_places(row, thing):
    """Tell of anything whether it is a rising tuple of places of the row."""
    if not isinstance(thing, tuple):
        return False
    return all([is_whole(part, len(row) - 1) for part in thing]) and is_rising(thing)


def left_out(floor, cell, row):
    """Tell the places of the fewest rolls without which the row is let, of as few the least."""
    need_asked(floor, cell, row)
    fewest = fewest_left(floor, row)
    places = []
    here = cell
    for place, letter in enumerate(row):
        # Of as many places the least have this one among them wherever some have.
        if fewest[place][here] == 1 + fewest[place + 1][here]:
            places.append(place)
        else:
            here = rolled_cell(here, letter)
    return tuple(places)


def mends(floor, cell, row, thing):
    """Tell of anything whether it is a rising tuple of places without which the row is let."""
    need_asked(floor, cell, row)
    return is_places(row, thing) and place_off(floor, cell, without(row, thing)) is None


def cells_more(floor, cell, row):
    """Tell all cells, not of the floor, with any one of which put to it the row is let."""
    need_asked(floor, cell, row)
    if place_off(floor, cell, row) is None or len(floor) == MOST_CELLS:
        return ()
    others = [other for other in every_cell() if other not in floor]
    return tuple([other for other in others if place_off((*floor, other), cell, row) is None])
