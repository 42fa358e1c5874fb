"""The names by which cells and units are told."""

from squaresteps.bits import places_in

UNIT_WORDS = ("row", "column", "region", "diagonal")


def cell_name(n, cell):
    row = cell // n + 1
    column = cell % n + 1
    return f"r{row}c{column}"


def cell_names(n, cells):
    """Of a set of cells."""
    return " ".join([cell_name(n, cell) for cell in places_in(cells)])


def unit_name(n, place):
    # There are n units of each sort, but for the diagonals, which come last.
    word = UNIT_WORDS[place // n]
    number = place % n + 1
    return f"{word} {number}"
