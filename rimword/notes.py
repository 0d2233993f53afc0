"""Floors drawn as rows of signs, and read from them."""

from rimword.errors import BadText
from rimword.floors import Floor

CELL = "#"
EMPTY = "."
MOST_ROWS = 12
MOST_SIGNS = 12


def written(floor):
    """The rows of the floor, from its greatest y down to 0."""
    wide = max([x for x, y in floor.cells()]) + 1
    high = max([y for x, y in floor.cells()]) + 1
    return "\n".join([drawn_row(floor, y, wide)
                      for y in range(high - 1, -1, -1)])


def drawn_row(floor, y, wide):
    """The signs of one row."""
    return "".join([CELL if floor.has(x, y) else EMPTY for x in range(wide)])


def read(text):
    """The floor that the text draws."""
    rows = text.split("\n")
    for at, row in enumerate(rows):
        if at == MOST_ROWS or not is_row(row, len(rows[0])):
            raise BadText(at)
    # The last row is that of y 0.
    return Floor([(x, y) for y, row in enumerate(rows[::-1])
                  for x, sign in enumerate(row) if sign == CELL])


def is_row(row, many):
    """Whether these are as many signs, not too many, and none is another."""
    return (len(row) == many and 1 <= many <= MOST_SIGNS and
            all([sign in (CELL, EMPTY) for sign in row]))
