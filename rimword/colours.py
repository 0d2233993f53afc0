"""Pieces put and taken away that make a floor, or shares of the cells by
which each piece is whole, and the floor isn't."""

from math import gcd

from rimword.errors import BadBox
from rimword.laying import cells_at

MOST_IN_BOX = 36

# Counts are a list of whole numbers: how often each cell of the box is
# covered, then how often each place is put (below 0: taken away) for it. They
# are reckoned with as one, so that it stays known what was put.


def signed(floor, pieces, wide, high):
    """("signed", rows) that make the floor, or else ("colours", shares)."""
    check_box(floor, wide, high)
    box = [(x, y) for y in range(high) for x in range(wide)]
    places = box_places(pieces, wide, high)
    many = len(box)
    leading = leading_counts(place_counts(places, box), many)
    counts = floor_counts(floor, box, places)
    left, stuck = taken_off(counts, leading, many)
    if stuck is None:
        return ("signed", rows_put(places, left[many:]))
    shares = shares_against(left, stuck, leading, many)
    return ("colours", [shares[at:at + wide] for at in range(0, many, wide)])


def check_box(floor, wide, high):
    """Refuse a box of no cells, of too many, or not around the floor."""
    # Two numbers below 0 would make a good count of cells.
    if wide < 1 or high < 1 or wide * high > MOST_IN_BOX:
        raise BadBox("a box is of 1 to 36 cells")
    if not lies_in_box(floor.cells(), wide, high):
        raise BadBox("a cell of the floor is beyond the box")


def lies_in_box(cells, wide, high):
    """Whether all the cells, none of them below 0, are in the box."""
    return all([x < wide and y < high for x, y in cells])


def box_places(pieces, wide, high):
    """All (piece, x, y) that lie in the box, each with its cells."""
    found = []
    for piece, told in enumerate(pieces.told()):
        for y in range(high):
            for x in range(wide):
                lying = cells_at(told, x, y)
                if lies_in_box(lying, wide, high):
                    found.append(((piece, x, y), lying))
    return found


def place_counts(places, box):
    """For each place the counts of it alone, put once."""
    return [[int(cell in lying) for cell in box] +
            [int(other == at) for other in range(len(places))]
            for at, (_, lying) in enumerate(places)]


def floor_counts(floor, box, places):
    """The counts of the floor's cells, with nothing put."""
    return [int(floor.has(x, y)) for x, y in box] + [0] * len(places)


def less(counts, often, others):
    """The counts, less so many times the others."""
    return [count - often * other for count, other in zip(counts, others)]


def leading_counts(rows, many):
    """Counts from which all of the rows are made, by their first cell.

    No two of them have the same first cell, so that it is found cell by cell
    what else is made from them.
    """
    leading = {}
    for at in range(many):
        covering = [counts for counts in rows if counts[at] != 0]
        rows = [counts for counts in rows if counts[at] == 0]
        # Euclid's steps, always by the least: by others the counts of places
        # would come to numbers of a hundred digits.
        while len(covering) > 1:
            least, others = least_parted(covering, at)
            rest = [less(counts, counts[at] // least[at], least)
                    for counts in others]
            covering = [least] + [counts for counts in rest if counts[at] != 0]
            rows = rows + [counts for counts in rest if counts[at] == 0]
        if covering:
            leading[at] = covering[0]
    return leading


def least_parted(rows, at):
    """The counts that are nearest to 0 at a cell, and all others."""
    sizes = [abs(counts[at]) for counts in rows]
    place = sizes.index(min(sizes))
    return rows[place], rows[:place] + rows[place + 1:]


def taken_off(counts, leading, many):
    """What is left behind the leading counts, and the first cell, or None, at
    which no whole number of them can be taken off."""
    for at in range(many):
        if counts[at] == 0:
            continue
        if at not in leading or counts[at] % leading[at][at] != 0:
            return counts, at
        counts = less(counts, counts[at] // leading[at][at], leading[at])
    return counts, None


def rows_put(places, left):
    """The rows of the places that are put or taken away."""
    # What was taken off the floor until nothing was left is what makes it.
    return [place + (-often,)
            for (place, _), often in zip(places, left) if often != 0]


def shares_against(left, stuck, leading, many):
    """For each cell of the box its share, in lowest terms."""
    tops = [0] * many
    tops[stuck] = 1
    # By a share of 1 over this, what is left comes to no whole number, but the
    # counts that lead here come to 1 or -1; where none do, it comes to a half.
    bottom = 2 * abs(left[stuck])
    if stuck in leading:
        bottom = abs(leading[stuck][stuck])
    # Counts that lead at later cells come to 0, as there is no share at these.
    # Those that lead at earlier cells were taken off: they are to come to 0.
    for at in range(stuck - 1, -1, -1):
        if at not in leading:
            continue
        counts = leading[at]
        total = sum([top * count for top, count in zip(tops, counts)])
        scale = abs(counts[at]) // gcd(total, counts[at])
        tops = [top * scale for top in tops]
        bottom = bottom * scale
        tops[at] = -total * scale // counts[at]
    return [lowest_terms(top, bottom) for top in tops]


def lowest_terms(top, bottom):
    """The fraction, less its whole number, in lowest terms."""
    # A whole number more or less at a cell leaves whole what is whole.
    part = top % bottom
    common = gcd(part, bottom)
    return (part // common, bottom // common)
