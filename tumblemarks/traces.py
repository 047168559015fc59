"""Turns of two cubes that come of one another by exchanges of neighbours.

Such exchanges keep the order of each cube's own turns, and so the cells of each of them; they keep, too, which of two
turns of unlike cubes with a cell in common comes first, and nothing else. So each turn waits for some turns of the
other cube, and whatever order lets each wait comes of the turns.
"""

from tumblemarks.floors import need_floor
from tumblemarks.pairs import need_let_turns, need_pair, need_taken, need_turns, pairs_on


def turns_of(turns, cube):
    """Tell the turns of this cube alone."""
    return [turn for turn in turns if turn[0] == cube]


def cells_of(pair, turns):
    """Tell, for each turn, its cube, the cell that it leaves and the one to which it leads."""
    pairs = pairs_on(pair, turns)
    cells = []
    for here, there, turn in zip(pairs, pairs[1:], turns):
        cube = turn[0]
        cells.append((cube, here[cube][0], there[cube][0]))
    return cells


def do_meet(one, other):
    """Tell whether two turns (cube, cell, cell) have a cell in common."""
    return one[1] in other[1:] or one[2] in other[1:]


def waits(pair, turns):
    """Tell, for each cube, of each of its turns how many of the other cube's must come ahead of it."""
    waited = ([], [])
    gone = ([], [])
    for turn in cells_of(pair, turns):
        cube = turn[0]
        meeting = [number for number, other in enumerate(gone[1 - cube], start=1) if do_meet(turn, other)]
        waited[cube].append(max(meeting, default=0))
        gone[cube].append(turn)
    return waited


def may_go(waited, done, cube):
    """Tell whether the next turn of the cube may come where so many turns of each cube are done."""
    place = done[cube]
    return place < len(waited[cube]) and waited[cube][place] <= done[1 - cube]


def least_order(pair, turns):
    """Tell the least turns that come of turns that are let."""
    waited = waits(pair, turns)
    own = (turns_of(turns, 0), turns_of(turns, 1))
    done = [0, 0]
    told = []
    while len(told) < len(turns):
        # Any turn of the first cube is less than any of the second, and whatever may go leaves the rest a way to go.
        cube = 0 if may_go(waited, done, 0) else 1
        told.append(own[cube][done[cube]])
        done[cube] += 1
    return tuple(told)


def least_turns(floor, pair, turns):
    """Tell the least turns that come of turns that are let."""
    need_taken(floor, pair, turns)
    return least_order(pair, turns)


def how_many(floor, pair, turns):
    """Tell how many turns come of turns that are let, themselves too."""
    need_taken(floor, pair, turns)
    waited = waits(pair, turns)
    # How many orders lead to so many turns of each cube: the orders may be too many to list, such numbers are few.
    ways = {(0, 0): 1}
    for one in range(len(waited[0]) + 1):
        for other in range(len(waited[1]) + 1):
            many = ways.get((one, other), 0)
            if may_go(waited, (one, other), 0):
                ways[(one + 1, other)] = ways.get((one + 1, other), 0) + many
            if may_go(waited, (one, other), 1):
                ways[(one, other + 1)] = ways.get((one, other + 1), 0) + many
    return ways[(len(waited[0]), len(waited[1]))]


def come_of(floor, pair, one, other):
    """Tell whether two lots of turns that are let come of one another."""
    need_floor(floor)
    need_pair(floor, pair)
    need_turns(one)
    need_turns(other)
    need_let_turns(floor, pair, one)
    need_let_turns(floor, pair, other)
    # Turns come of one another just where the same come of both, and so where the least of these are the same.
    return least_order(pair, one) == least_order(pair, other)
