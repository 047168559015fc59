"""Rows that are played again and again."""

from tumblemarks.errors import NoTimes, NotLet
from tumblemarks.floors import (
    is_whole, need_cell, need_floor, need_row, need_stand, place_off, rolled_cell, stand_behind,
)
from tumblemarks.marks import exchange, order, rounds_in

MOST_TIMES = 1000000000000


def cell_behind(cell, row):
    """Tell the cell to which a row leads."""
    here = cell
    for letter in row:
        here = rolled_cell(here, letter)
    return here


def is_endless(floor, cell, row):
    """Tell whether a row may be played without end."""
    return place_off(floor, cell, row) is None and cell_behind(cell, row) == cell


def most_plays(floor, cell, row):
    """Tell how many times a row may be played, None where that has no end."""
    if is_endless(floor, cell, row):
        return None
    plays = 0
    here = cell
    # It ends: each play shifts the cube by as much as the first one did, so some play leads off.
    while place_off(floor, here, row) is None:
        here = cell_behind(here, row)
        plays += 1
    return plays


def need_times(times):
    """Refuse what is no number of times."""
    if not is_whole(times, MOST_TIMES):
        raise NoTimes()


def need_plays(floor, cell, row, times):
    """Refuse a row that may not be played so often."""
    most = most_plays(floor, cell, row)
    if most is not None and times > most:
        raise NotLet()


def need_endless(floor, cell, row):
    """Refuse a row that may not be played without end."""
    if not is_endless(floor, cell, row):
        raise NotLet()


def turn_plays(floor, stand, row):
    """Tell how many plays of an endless row, one or more, it takes for the cube to lie as it lay."""
    cell, lying = stand
    plays = 1
    here = stand_behind(floor, cell, lying, row)
    while here != stand:
        here = stand_behind(floor, cell, here[1], row)
        plays += 1
    return plays


def repeated(exchanged, times):
    """Tell the exchange that is another one done so many times."""
    spots = list(range(len(exchanged)))
    for turn in rounds_in(exchanged):
        for place, spot in enumerate(turn):
            spots[spot] = turn[(place + times) % len(turn)]
    return tuple(spots)


def need_far(floor, stand, row, times):
    """Refuse what may not be asked of a row that is played so many times."""
    need_floor(floor)
    need_stand(floor, stand)
    need_row(row)
    need_times(times)
    need_plays(floor, stand[0], row, times)


def split_times(floor, stand, row, times):
    """Tell how many plays turn the cube once round, how many such rounds there are in times, and the plays left."""
    if not is_endless(floor, stand[0], row):
        # So few plays of it are let that none of them need be put together.
        return (0, 0, times)
    turn = turn_plays(floor, stand, row)
    return (turn, times // turn, times % turn)


def how_often(floor, cell, row):
    """Tell how many times a row may be played from the cell, None where that has no end."""
    need_floor(floor)
    need_cell(floor, cell)
    need_row(row)
    return most_plays(floor, cell, row)


def stand_far(floor, stand, row, times):
    """Tell the stand behind a row that is played so many times."""
    need_far(floor, stand, row, times)
    left = split_times(floor, stand, row, times)[2]
    return stand_behind(floor, stand[0], stand[1], row * left)


def exchange_far(floor, stand, row, times):
    """Tell the exchange of a row that is played so many times."""
    need_far(floor, stand, row, times)
    turn, often, left = split_times(floor, stand, row, times)
    ahead = repeated(exchange(floor, stand, row * turn), often)
    behind = exchange(floor, stand, row * left)
    return tuple([behind[spot] for spot in ahead])


def round_of(floor, stand, row):
    """Tell the least number of plays, one or more, behind which the cube and all marks are as they were."""
    need_floor(floor)
    need_stand(floor, stand)
    need_row(row)
    need_endless(floor, stand[0], row)
    turn = turn_plays(floor, stand, row)
    return turn * order(floor, stand, row * turn)
