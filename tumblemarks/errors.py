"""The refusals: one class for each thing that can be wrong with what is handed in."""


class TumbleError(ValueError):
    """What every refusal of this program is."""


class NoFloor(TumbleError):
    """This is no floor: no rising tuple of one to nine cells."""


class NoCell(TumbleError):
    """This is no cell of the floor."""


class NoLying(TumbleError):
    """This is none of the 24 lyings."""


class NoRoll(TumbleError):
    """This is none of the letters of a roll."""


class NoRow(TumbleError):
    """This is no text of letters of rolls."""


class NotLet(TumbleError):
    """Some roll or turn of this leads where it may not."""


class NoStand(TumbleError):
    """This is no cell of the floor with a lying."""


class NoMarks(TumbleError):
    """This is no tuple with a mark for each spot."""


class NoTimes(TumbleError):
    """This is no number of times that a row may be asked for."""


class NoSpot(TumbleError):
    """This is no number of a spot."""


class NoLooks(TumbleError):
    """These are no looks at the row."""


class NoCells(TumbleError):
    """This is no rising tuple of cells of the floor."""


class NoPair(TumbleError):
    """These are no two stands on unlike cells."""


class NoTurns(TumbleError):
    """These are no turns of two cubes."""


class NoWord(TumbleError):
    """This is no word for a way to turn a floor."""


class NoMark(TumbleError):
    """This is no mark."""


class NoDeed(TumbleError):
    """There is no deed to be undone."""


class NoText(TumbleError):
    """This is no text of a floor."""


class NoLine(TumbleError):
    """This is no line that a desk knows."""
