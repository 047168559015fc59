"""What a row does to the marks of the cube and of the floor."""

from tumblemarks.errors import NoMarks, NoSpot
from tumblemarks.floors import is_whole, need_floor, need_let, need_row, need_stand, rolled_stand

FACES = 6
MOST_MARK = 999


def spots_of(floor):
    """Tell the numbers of all spots: the faces, then the cells in order."""
    return tuple(range(FACES + len(floor)))


def spot_of_cell(floor, cell):
    """Tell the number of the spot that a cell of the floor is."""
    return FACES + floor.index(cell)


def is_spot(floor, thing):
    """Tell of anything whether it is the number of a spot."""
    return is_whole(thing, FACES + len(floor) - 1)


def is_marks(floor, thing):
    """Tell of anything whether it is marks of the floor."""
    if not isinstance(thing, tuple) or len(thing) != len(spots_of(floor)):
        return False
    return all([is_whole(mark, MOST_MARK) for mark in thing])


def need_marks(floor, marks):
    """Refuse what is no marks of the floor."""
    if not is_marks(floor, marks):
        raise NoMarks()


def need_spot(floor, spot):
    """Refuse what is no number of a spot."""
    if not is_spot(floor, spot):
        raise NoSpot()


def trade_at(floor, stand):
    """Tell the two spots whose marks a roll exchanges that leads to this stand."""
    cell, lying = stand
    return (lying[0], spot_of_cell(floor, cell))


def traded_spot(trade, spot):
    """Tell the spot to which a trade of two spots brings the mark of this one."""
    one, other = trade
    if spot == one:
        return other
    if spot == other:
        return one
    return spot


def trades(floor, stand, row):
    """Tell, for each roll, the spots of the lowest face and of the cell below it behind it."""
    traded = []
    here = stand
    for letter in row:
        here = rolled_stand(here, letter)
        traded.append(trade_at(floor, here))
    return traded


def held_traded(traded, held):
    """Tell what each spot holds behind some trades of two spots each, of what each held at first."""
    now = list(held)
    for one, other in traded:
        now[one], now[other] = now[other], now[one]
    return tuple(now)


def held_behind(floor, stand, row, held):
    """Tell what each spot holds behind the row, of what each held at first."""
    return held_traded(trades(floor, stand, row), held)


def exchange_by(traded, spots):
    """Tell the exchange of all spots that some trades are, one behind the other."""
    origins = held_traded(traded, spots)
    # This tells from where each mark came; asked for is to where each went.
    return tuple([origins.index(spot) for spot in spots])


def round_from(exchanged, first):
    """Tell the spots through which the mark of the first one comes back to it."""
    spots = [first]
    spot = exchanged[first]
    while spot != first:
        spots.append(spot)
        spot = exchanged[spot]
    return tuple(spots)


def rounds_in(exchanged):
    """Tell the rounds of two spots or more of an exchange."""
    turns = [round_from(exchanged, first) for first in range(len(exchanged))]
    # Each round was gone through from each of its spots; the one from its least spot stands for it.
    return tuple([turn for turn in turns if len(turn) > 1 and turn[0] == min(turn)])


def common_divisor(one, other):
    """Tell the greatest number that divides both."""
    while other > 0:
        one, other = other, one % other
    return one


def marks_behind(floor, stand, row, marks):
    """Tell the marks behind a row that is let."""
    need_floor(floor)
    need_stand(floor, stand)
    need_row(row)
    need_marks(floor, marks)
    need_let(floor, stand[0], row)
    return held_behind(floor, stand, row, marks)


def exchange(floor, stand, row):
    """Tell, for each spot, the spot to which the mark that stood there at first has come."""
    need_floor(floor)
    need_stand(floor, stand)
    need_row(row)
    need_let(floor, stand[0], row)
    return exchange_by(trades(floor, stand, row), spots_of(floor))


def rounds(floor, stand, row):
    """Tell the rounds of the exchange of a row."""
    return rounds_in(exchange(floor, stand, row))


def order(floor, stand, row):
    """Tell how often at the least the exchange must be done for all marks to be where they were."""
    times = 1
    for spots in rounds(floor, stand, row):
        times = times * len(spots) // common_divisor(times, len(spots))
    return times


def is_even(floor, stand, row):
    """Tell whether the exchange of a row is even."""
    moved = rounds(floor, stand, row)
    # A spot that stays counts as one spot and as one round, so it falls out of the difference.
    return (sum([len(spots) for spots in moved]) - len(moved)) % 2 == 0
