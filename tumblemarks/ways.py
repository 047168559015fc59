"""The shortest rows that lead somewhere."""

from tumblemarks.floors import let_letters, need_floor, need_stand, rolled_stand


def reached(floor, start, rolled, most=None):
    """Tell all to which rows lead from start, each with the shortest row, of as short ones the least.

    The first part of start is the cube's cell; rolled tells what a roll that is let makes of such a thing.
    Where most is a number, only rows of at most so many rolls count.
    """
    rows = {start: ""}
    edge = [start]
    # The rows of an edge are as long as each other and rise, and so do the letters: so of as short rows that lead
    # to one thing the least comes first, and what is told is in the order of its rows.
    while edge and (most is None or len(rows[edge[0]]) < most):
        found = []
        for here in edge:
            for letter in let_letters(floor, here[0]):
                there = rolled(here, letter)
                if there not in rows:
                    rows[there] = rows[here] + letter
                    found.append(there)
        edge = found
    return rows


def way(floor, one, other):
    """Tell the shortest row from one stand to the other, of as short ones the least, None where none leads there."""
    need_floor(floor)
    need_stand(floor, one)
    need_stand(floor, other)
    return reached(floor, one, rolled_stand).get(other)
