"""Floors turned to the left, and mirrored."""

from tumblemarks.errors import NoWord
from tumblemarks.floors import LAST_LINE, OPPOSITE_SUM, need_floor, need_row, need_stand
from tumblemarks.marks import FACES, spot_of_cell

LEFT = "left"
WORDS = ("left", "mirror")
LEFT_LETTERS = {"n": "w", "e": "n", "s": "e", "w": "s"}
MIRROR_LETTERS = {"n": "n", "e": "w", "s": "s", "w": "e"}
# A mirrored cube is one that rolls can make of (0, 1, 2) only if two opposite faces change their numbers.
MIRROR_FACES = (0, 1, 3, 2, 4, 5)


def need_word(word):
    """Refuse what is no word for a way to turn a floor."""
    if not isinstance(word, str) or word not in WORDS:
        raise NoWord()


def turned_cell(word, cell):
    """Tell the cell that this one becomes."""
    column, line = cell
    if word == LEFT:
        return (LAST_LINE - line, column)
    return (LAST_LINE - column, line)


def turned_face(word, face):
    """Tell the number that this face of the cube gets."""
    if word == LEFT:
        return face
    return MIRROR_FACES[face]


def turned_lying(word, lying):
    """Tell the lying that this one becomes."""
    low, north, east = lying
    if word == LEFT:
        return (low, east, OPPOSITE_SUM - north)
    return tuple([turned_face(word, face) for face in (low, north, OPPOSITE_SUM - east)])


def turned_letter(word, letter):
    """Tell the letter that this one becomes."""
    if word == LEFT:
        return LEFT_LETTERS[letter]
    return MIRROR_LETTERS[letter]


def turned_floor(floor, word):
    """Tell the turned floor."""
    need_floor(floor)
    need_word(word)
    return tuple(sorted([turned_cell(word, cell) for cell in floor]))


def turned_stand(floor, word, stand):
    """Tell the turned stand."""
    need_floor(floor)
    need_word(word)
    need_stand(floor, stand)
    cell, lying = stand
    return (turned_cell(word, cell), turned_lying(word, lying))


def turned_row(word, row):
    """Tell the turned row."""
    need_word(word)
    need_row(row)
    return "".join([turned_letter(word, letter) for letter in row])


def turned_spots(floor, word):
    """Tell, for each spot, the spot of the turned floor at which its mark is then."""
    other = turned_floor(floor, word)
    faces = [turned_face(word, face) for face in range(FACES)]
    cells = [spot_of_cell(other, turned_cell(word, cell)) for cell in floor]
    return tuple(faces + cells)
