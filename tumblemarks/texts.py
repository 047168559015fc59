"""Floors, stands, marks and rows as they are written."""

from tumblemarks.errors import NoText
from tumblemarks.floors import every_cell, is_floor, need_floor, need_stand
from tumblemarks.marks import need_marks

FLOOR_WORD = "floor"
NO_ROLLS = "-"


def cell_text(cell):
    """Tell the text of a cell."""
    column, line = cell
    return f"{column},{line}"


def row_text(row):
    """Tell the text of a row."""
    if row == "":
        return NO_ROLLS
    return row


def row_written(text):
    """Tell the row that a text of one writes."""
    if text == NO_ROLLS:
        return ""
    return text


def floor_written(text):
    """Tell of anything the floor that it writes, None where it is no text of one."""
    if not isinstance(text, str):
        return None
    word, *parts = text.split(" ")
    cells = {cell_text(cell): cell for cell in every_cell()}
    if word != FLOOR_WORD or not all([part in cells for part in parts]):
        return None
    floor = tuple([cells[part] for part in parts])
    if not is_floor(floor):
        return None
    return floor


def floor_text(floor):
    """Tell the text of a floor."""
    need_floor(floor)
    return " ".join([FLOOR_WORD] + [cell_text(cell) for cell in floor])


def stand_text(floor, stand):
    """Tell the text of a stand."""
    need_floor(floor)
    need_stand(floor, stand)
    cell, lying = stand
    faces = "".join([str(face) for face in lying])
    return f"{cell_text(cell)} {faces}"


def marks_text(floor, marks):
    """Tell the text of marks."""
    need_floor(floor)
    need_marks(floor, marks)
    return " ".join([str(mark) for mark in marks])


def read_floor(text):
    """Tell the floor that a text writes."""
    floor = floor_written(text)
    if floor is None:
        raise NoText()
    return floor
