"""Two cubes that go by turns."""

from tumblemarks.errors import NoPair, NotLet, NoTurns
from tumblemarks.floors import is_letter, is_stand, is_whole, need_floor, rolled_stand
from tumblemarks.marks import FACES, exchange_by

LAST_CUBE = 1
MOST_TURNS = 24


def is_pair(floor, thing):
    """Tell of anything whether it is a pair of the floor."""
    if not isinstance(thing, tuple) or len(thing) != 2:
        return False
    return all([is_stand(floor, part) for part in thing]) and thing[0][0] != thing[1][0]


def is_turn(thing):
    """Tell of anything whether it is a turn, let or not."""
    if not isinstance(thing, tuple) or len(thing) != 2:
        return False
    cube, letter = thing
    return is_whole(cube, LAST_CUBE) and is_letter(letter)


def is_turns(thing):
    """Tell of anything whether it is turns, let or not."""
    if not isinstance(thing, tuple) or len(thing) > MOST_TURNS:
        return False
    return all([is_turn(part) for part in thing])


def need_pair(floor, pair):
    """Refuse what is no pair of the floor."""
    if not is_pair(floor, pair):
        raise NoPair()


def need_turns(turns):
    """Refuse what is no turns."""
    if not is_turns(turns):
        raise NoTurns()


def rolled_pair(pair, turn):
    """Tell what a turn makes of a pair, let or not."""
    cube, letter = turn
    stands = list(pair)
    stands[cube] = rolled_stand(pair[cube], letter)
    return tuple(stands)


def pairs_on(pair, turns):
    """Tell the pair at first and behind each turn, let or not."""
    pairs = [pair]
    for turn in turns:
        pairs.append(rolled_pair(pairs[-1], turn))
    return pairs


def place_stop(floor, pair, turns):
    """Tell the first place of a turn that is not let, None where all are."""
    behind = pairs_on(pair, turns)[1:]
    for place, here in enumerate(behind):
        # As long as all were let, what is no pair now has a cube off the floor or both on one cell.
        if not is_pair(floor, here):
            return place
    return None


def need_let_turns(floor, pair, turns):
    """Refuse turns that are not let."""
    if place_stop(floor, pair, turns) is not None:
        raise NotLet()


def need_taken(floor, pair, turns):
    """Refuse what may not be asked of turns that must be let."""
    need_floor(floor)
    need_pair(floor, pair)
    need_turns(turns)
    need_let_turns(floor, pair, turns)


def trade_of_two(floor, pair, cube):
    """Tell the two spots whose marks the turn of this cube exchanges that leads to the pair."""
    cell, lying = pair[cube]
    return (FACES * cube + lying[0], FACES * 2 + floor.index(cell))


def first_stop(floor, pair, turns):
    """Tell the first place, from 0, of a turn that is not let, None where all are."""
    need_floor(floor)
    need_pair(floor, pair)
    need_turns(turns)
    return place_stop(floor, pair, turns)


def pair_behind(floor, pair, turns):
    """Tell the pair behind turns that are let."""
    need_taken(floor, pair, turns)
    return pairs_on(pair, turns)[-1]


def exchange_two(floor, pair, turns):
    """Tell, for each spot, the spot to which the mark that stood there at first has come behind the turns."""
    need_taken(floor, pair, turns)
    behind = pairs_on(pair, turns)[1:]
    traded = [trade_of_two(floor, there, turn[0]) for there, turn in zip(behind, turns)]
    return exchange_by(traded, tuple(range(FACES * 2 + len(floor))))
