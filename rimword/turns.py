"""Layings with pieces of two cells: their heights, and turns between them."""

from rimword.errors import NoTurn
from rimword.heights import (black_to_the_left, floor_sides, laying_by,
                             least_sums, middle_side, most_rise)
from rimword.laying import is_laid
from rimword.pieces import dominoes

NUMBERS = {"e": 0, "n": 1}
NO_PIECE = -1
# By a turn a corner comes to be so much higher or lower.
BY_TURN = 4


def heights(floor, laying):
    """The height of each corner of the floor's cells."""
    check_laying(floor, laying)
    through = set()
    for x, y, letter in laying:
        here, there = middle_side(x, y, letter)
        through.add((here, there))
        through.add((there, here))
    sides = []
    for here, step, there in floor_sides(floor):
        rise = -3 if (here, there) in through else 1
        if not black_to_the_left(here, step):
            rise = -rise
        sides.append((here, there, rise))
    # All ways to a corner have the same sum here, so the least one is it.
    told, _, _ = least_sums(floor.first(), sides)
    return told


def turned(floor, laying, corner):
    """The laying with the two pieces around the corner laid the other way."""
    check_laying(floor, laying)
    x, y = corner
    along = [(x - 1, y - 1, "e"), (x - 1, y, "e")]
    up = [(x - 1, y - 1, "n"), (x, y - 1, "n")]
    for taken, put in ((along, up), (up, along)):
        if all([piece in laying for piece in taken]):
            kept = [piece for piece in laying if piece not in taken]
            return sorted(kept + put)
    raise NoTurn("no two pieces lie side by side around the corner")


def turns(floor, one, other):
    """The corners of as few turns as lead from the one to the other."""
    here = heights(floor, one)
    there = heights(floor, other)
    # By way of the laying that is at each corner as low as the lower of both.
    return turns_down(here, there) + turns_down(there, here)[::-1]


def lowest(floor):
    """The laying with the least heights, or None."""
    # No corner is lower than the least way from it to the first one allows: so
    # the ways are followed back. The sums are the heights with the other sign.
    sides = [(there, here, most_rise(floor, here, step))
             for here, step, there in floor_sides(floor)]
    least, _, falling = least_sums(floor.first(), sides)
    return laying_by(floor, least) if falling is None else None


def check_laying(floor, laying):
    """Refuse what is no laying with pieces of two cells."""
    rows = [(NUMBERS.get(letter, NO_PIECE), x, y) for x, y, letter in laying]
    if not is_laid(floor, dominoes(), rows):
        raise NoTurn("the list is no laying")


def turns_down(above, below):
    """Corners to turn, until none of the one's is above that of the other."""
    # The highest corner that is above the other's is above all around it: one
    # of those that isn't would be more than 3 lower by the other's heights.
    found = [(height, corner) for corner in above
             for height in range(above[corner], below[corner], -BY_TURN)]
    return [corner for _, corner in sorted(found, reverse=True)]
