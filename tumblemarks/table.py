"""A table: a cube and a floor that keep their marks from deed to deed."""

from tumblemarks.again import exchange_far, stand_far
from tumblemarks.errors import NoDeed, NoMark
from tumblemarks.floors import is_whole, need_cell, need_floor, need_letter, need_lying
from tumblemarks.marks import MOST_MARK, held_traded, need_marks, need_spot, spot_of_cell


def exchanged_marks(exchanged, marks):
    """Tell the marks behind an exchange."""
    now = list(marks)
    for spot, to in enumerate(exchanged):
        now[to] = marks[spot]
    return tuple(now)


def need_mark(number):
    """Refuse what is no mark."""
    if not is_whole(number, MOST_MARK):
        raise NoMark()


class Table:
    """Keeps a stand and marks of a floor, and the deeds that can be undone."""

    def __init__(self, floor, cell, lying, marks):
        need_floor(floor)
        need_cell(floor, cell)
        need_lying(lying)
        need_marks(floor, marks)
        self.floor = floor
        self.here = (cell, lying)
        self.held = marks
        self.rolled = 0
        # For each deed that can be undone what was kept ahead of it: stand, marks and number of rolls.
        self.past = []

    def keep(self, here, held, rolled):
        """Do a deed: keep this from now on, and what was kept so far for undo."""
        self.past.append((self.here, self.held, self.rolled))
        self.here = here
        self.held = held
        self.rolled = rolled

    def roll(self, letter):
        """Roll the cube once."""
        need_letter(letter)
        self.play(letter)

    def play(self, row, times=1):
        """Play a row so many times, all of it as one deed."""
        here = stand_far(self.floor, self.here, row, times)
        exchanged = exchange_far(self.floor, self.here, row, times)
        self.keep(here, exchanged_marks(exchanged, self.held), self.rolled + len(row) * times)

    def mark(self, spot, number):
        """Put a mark in the place of the one at the spot."""
        need_spot(self.floor, spot)
        need_mark(number)
        held = list(self.held)
        held[spot] = number
        self.keep(self.here, tuple(held), self.rolled)

    def trade(self, one, other):
        """Exchange the marks of two spots."""
        need_spot(self.floor, one)
        need_spot(self.floor, other)
        self.keep(self.here, held_traded([(one, other)], self.held), self.rolled)

    def undo(self):
        """Undo the last deed that stands."""
        if not self.past:
            raise NoDeed()
        here, held, rolled = self.past.pop()
        self.here = here
        self.held = held
        self.rolled = rolled

    def stand(self):
        """Tell the stand of the cube."""
        return self.here

    def marks(self):
        """Tell the marks of all spots."""
        return self.held

    def rolls(self):
        """Tell how many rolls were done by deeds that stand."""
        return self.rolled

    def at(self, cell):
        """Tell the mark of a cell."""
        need_cell(self.floor, cell)
        return self.held[spot_of_cell(self.floor, cell)]

    def twin(self):
        """Tell another table that is as this one is, with the same deeds that can be undone."""
        cell, lying = self.here
        other = Table(self.floor, cell, lying, self.held)
        other.rolled = self.rolled
        other.past = list(self.past)
        return other

    def __len__(self):
        return len(self.past)

    def __eq__(self, other):
        return (
            isinstance(other, Table) and self.floor == other.floor
            and self.here == other.here and self.held == other.held
        )

    def __repr__(self):
        return f"Table({self.rolled} rolls)"
