"""What was seen of the marks: which stood where at first, and which ever come into sight."""

from tumblemarks.again import need_endless, turn_plays
from tumblemarks.errors import NoCells, NoLooks
from tumblemarks.floors import is_cell_of, is_rising, is_whole, need_floor, need_let, need_row, need_stand
from tumblemarks.marks import (
    MOST_MARK, exchange, held_behind, need_spot, round_from, spot_of_cell, spots_of, traded_spot, trades,
)

MOST_LOOKS = 12


def is_look(floor, row, thing):
    """Tell of anything whether it is a look at the row."""
    if not isinstance(thing, tuple) or len(thing) != 3:
        return False
    beat, cell, mark = thing
    return is_whole(beat, len(row)) and is_cell_of(floor, cell) and is_whole(mark, MOST_MARK)


def is_looks(floor, row, thing):
    """Tell of anything whether it is looks at the row."""
    if not isinstance(thing, tuple) or len(thing) > MOST_LOOKS:
        return False
    return all([is_look(floor, row, part) for part in thing])


def need_looks(floor, row, looks):
    """Refuse what is no looks at the row."""
    if not is_looks(floor, row, looks):
        raise NoLooks()


def is_cells(floor, thing):
    """Tell of anything whether it is a rising tuple of cells of the floor."""
    if not isinstance(thing, tuple):
        return False
    return all([is_cell_of(floor, part) for part in thing]) and is_rising(thing)


def need_cells(floor, cells):
    """Refuse what is no rising tuple of cells of the floor."""
    if not is_cells(floor, cells):
        raise NoCells()


def told_firsts(floor, stand, row, looks):
    """Tell, for each look, a tuple of the spot at first of the mark that it saw, and this mark."""
    firsts = []
    for beat, cell, mark in looks:
        held = held_behind(floor, stand, row[:beat], spots_of(floor))
        firsts.append((held[spot_of_cell(floor, cell)], mark))
    return firsts


def do_clash(one, other):
    """Tell whether two tuples (spot, mark) tell two marks of one spot."""
    return one[0] == other[0] and one[1] != other[1]


def clashes(firsts):
    """Tell all two numbers of looks that clash, the lesser first."""
    many = len(firsts)
    pairs = [(one, other) for one in range(many) for other in range(one + 1, many)]
    return [(one, other) for one, other in pairs if do_clash(firsts[one], firsts[other])]


def is_firsts(floor, thing):
    """Tell of anything whether it is a tuple with a mark or None for each spot."""
    if not isinstance(thing, tuple) or len(thing) != len(spots_of(floor)):
        return False
    return all([mark is None or is_whole(mark, MOST_MARK) for mark in thing])


def need_looked(floor, stand, row, looks):
    """Refuse what may not be asked of looks at a row."""
    need_floor(floor)
    need_stand(floor, stand)
    need_row(row)
    need_let(floor, stand[0], row)
    need_looks(floor, row, looks)


def looked(floor, stand, row, looks):
    """Tell the marks that stood at the spots at first, None where no look tells, or the least two looks that clash."""
    need_looked(floor, stand, row, looks)
    firsts = told_firsts(floor, stand, row, looks)
    clashing = clashes(firsts)
    if clashing:
        one, other = min(clashing)
        return ("clash", one, other)
    marks = [None for spot in spots_of(floor)]
    for spot, mark in firsts:
        marks[spot] = mark
    return ("first", tuple(marks))


def shows_firsts(floor, firsts, thing):
    """Tell of anything whether it shows marks that stood at the spots at first, by what the looks told."""
    if len(thing) != 2 or not is_firsts(floor, thing[1]):
        return False
    return all([thing[1][spot] == mark for spot, mark in firsts])


def shows_clash(firsts, thing):
    """Tell of anything whether it shows two looks that clash, by what the looks told."""
    if len(thing) != 3 or not is_whole(thing[2], len(firsts) - 1) or not is_whole(thing[1], thing[2] - 1):
        return False
    return do_clash(firsts[thing[1]], firsts[thing[2]])


def shows_looked(floor, stand, row, looks, thing):
    """Tell of anything whether it shows what stood there at first, or that the looks clash."""
    need_looked(floor, stand, row, looks)
    if not isinstance(thing, tuple) or not thing:
        return False
    firsts = told_firsts(floor, stand, row, looks)
    if thing[0] == "first":
        return shows_firsts(floor, firsts, thing)
    if thing[0] == "clash":
        return shows_clash(firsts, thing)
    return False


def beat_seen(traded, watched, spot):
    """Tell behind how many trades the mark of the spot first stands at a watched one, None where it doesn't."""
    if spot in watched:
        return 0
    here = spot
    for beat, trade in enumerate(traded, start=1):
        here = traded_spot(trade, here)
        if here in watched:
            return beat
    return None


def rolls_seen(floor, stand, row, cells, spot):
    """Tell behind how many rolls of an endless row the mark of the spot first stands at a watched cell, or None."""
    # So many plays turn the cube once round, and so each such turn does the same to marks.
    turn = row * turn_plays(floor, stand, row)
    traded = trades(floor, stand, turn)
    watched = [spot_of_cell(floor, cell) for cell in cells]
    for turns, here in enumerate(round_from(exchange(floor, stand, turn), spot)):
        beat = beat_seen(traded, watched, here)
        if beat is not None:
            return turns * len(turn) + beat
    return None


def seen_spots(floor, stand, row, cells):
    """Tell the spots whose marks ever stand at a watched cell, the row being played again and again."""
    need_floor(floor)
    need_stand(floor, stand)
    need_row(row)
    need_cells(floor, cells)
    need_endless(floor, stand[0], row)
    return tuple([spot for spot in spots_of(floor) if rolls_seen(floor, stand, row, cells, spot) is not None])


def seen_first(floor, stand, row, cells, spot):
    """Tell the least number of rolls behind which the mark of the spot stands at a watched cell, or None."""
    need_floor(floor)
    need_stand(floor, stand)
    need_row(row)
    need_cells(floor, cells)
    need_spot(floor, spot)
    need_endless(floor, stand[0], row)
    return rolls_seen(floor, stand, row, cells, spot)
