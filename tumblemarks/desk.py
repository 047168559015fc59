"""A desk that is told lines and answers them from its table."""

from tumblemarks.again import is_endless, round_of
from tumblemarks.errors import NoFloor, NoLine
from tumblemarks.floors import is_letter, is_row
from tumblemarks.marks import spots_of
from tumblemarks.table import Table
from tumblemarks.texts import NO_ROLLS, floor_written, marks_text, row_text, row_written, stand_text
from tumblemarks.wishes import bring

DONE = "ok"
FIGURES = "0123456789"
MOST_FIGURES = 13
MOST_LETTERS = 60
FIRST_LYING = (0, 1, 2)

# The words of each line but a floor's text; those in capitals stand for what the document calls so.
LINES = (
    ("roll", "LETTER"), ("play", "ROW"), ("play", "ROW", "N"), ("mark", "N", "N"), ("trade", "N", "N"), ("undo",),
    ("stand",), ("marks",), ("rolls",), ("round", "ROW"), ("bring", "N", "N"),
)


def is_number_text(word):
    """Tell whether a word writes a number of at most thirteen figures."""
    if not 1 <= len(word) <= MOST_FIGURES or not all([sign in FIGURES for sign in word]):
        return False
    return word == "0" or word[0] != "0"


def is_row_text(word):
    """Tell whether a word writes a row of at most sixty rolls."""
    return word == NO_ROLLS or (1 <= len(word) <= MOST_LETTERS and is_row(word))


def does_fit(kind, word):
    """Tell whether a word of a line may stand where this one of LINES does."""
    if kind == "LETTER":
        return is_letter(word)
    if kind == "ROW":
        return is_row_text(word)
    if kind == "N":
        return is_number_text(word)
    return word == kind


def is_line_of(kinds, words):
    """Tell whether words are a line of this form."""
    return len(kinds) == len(words) and all([does_fit(kind, word) for kind, word in zip(kinds, words)])


def line_words(line):
    """Tell the words of a line that is no text of a floor."""
    if not isinstance(line, str):
        raise NoLine()
    words = line.split(" ")
    if not any([is_line_of(kinds, words) for kinds in LINES]):
        raise NoLine()
    return words


def new_table(floor):
    """Tell a table of the floor as a desk begins with it."""
    return Table(floor, floor[0], FIRST_LYING, spots_of(floor))


def do_roll(table, words):
    """Answer `roll LETTER`."""
    table.roll(words[1])
    return DONE


def do_play(table, words):
    """Answer `play ROW` and `play ROW N`."""
    if len(words) == 2:
        table.play(row_written(words[1]))
    else:
        table.play(row_written(words[1]), int(words[2]))
    return DONE


def do_mark(table, words):
    """Answer `mark N N`."""
    table.mark(int(words[1]), int(words[2]))
    return DONE


def do_trade(table, words):
    """Answer `trade N N`."""
    table.trade(int(words[1]), int(words[2]))
    return DONE


def do_undo(table, words):
    """Answer `undo`."""
    table.undo()
    return DONE


def tell_stand(table, words):
    """Answer `stand`."""
    return stand_text(table.floor, table.stand())


def tell_marks(table, words):
    """Answer `marks`."""
    return marks_text(table.floor, table.marks())


def tell_rolls(table, words):
    """Answer `rolls`."""
    return str(table.rolls())


def tell_round(table, words):
    """Answer `round ROW`."""
    row = row_written(words[1])
    stand = table.stand()
    if not is_endless(table.floor, stand[0], row):
        return "none"
    return str(round_of(table.floor, stand, row))


def tell_bring(table, words):
    """Answer `bring N N`."""
    word, shown = bring(table.floor, table.stand(), int(words[1]), int(words[2]))
    if word == "row":
        return row_text(shown)
    return "never"


ANSWERS = {
    "roll": do_roll, "play": do_play, "mark": do_mark, "trade": do_trade, "undo": do_undo, "stand": tell_stand,
    "marks": tell_marks, "rolls": tell_rolls, "round": tell_round, "bring": tell_bring,
}


class Desk:
    """Keeps a table, at first none."""

    def __init__(self):
        self.table = None

    def say(self, line):
        """Answer a line."""
        floor = floor_written(line)
        if floor is not None:
            self.table = new_table(floor)
            return DONE
        words = line_words(line)
        # An empty table is no less a table: len tells deeds, so only None tells that there is none.
        if self.table is None:
            raise NoFloor()
        answer = ANSWERS[words[0]]
        return answer(self.table, words)
