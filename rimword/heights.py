"""Heights of corners: the highest laying with pieces of two cells, or a ring
that shows that there is none."""

from rimword.words import corners

# For each step from a corner (x, y), how far from (x, y) the cell to its left
# is, and the cell to its right.
BESIDE = {
    "e": ((0, 0), (0, -1)),
    "n": ((-1, 0), (0, 0)),
    "w": ((-1, -1), (-1, 0)),
    "s": ((0, -1), (-1, -1)),
}
LETTERS = "en"


def highest(floor):
    """("laid", laying), or else ("ring", corner, word)."""
    sides = [(here, there, most_rise(floor, here, step))
             for here, step, there in floor_sides(floor)]
    least, came, falling = least_sums(floor.first(), sides)
    if falling is None:
        # No laying is higher than the least way to a corner allows; and these
        # sums are heights of a laying, as they rise like such everywhere.
        return ("laid", laying_by(floor, least))
    around = ring_behind(falling, came)
    return ("ring", around[0], word_along(around))


def shows_ring(floor, corner, word):
    """Whether the word leads back to the corner, and less than 0 high."""
    here = corner
    total = 0
    for step in word:
        most = most_rise(floor, here, step)
        if most is None:
            return False
        total = total + most
        here = next_corner(here, step)
    return here == corner and total < 0


def next_corner(corner, step):
    """The corner to which one step leads."""
    return corners(corner, step)[-1]


def cell_beside(corner, beside):
    """The cell that is so far from the corner."""
    return (corner[0] + beside[0], corner[1] + beside[1])


def black_to_the_left(corner, step):
    """Whether the cell to the left, on the floor or beyond, is black."""
    x, y = cell_beside(corner, BESIDE[step][0])
    return (x + y) % 2 == 0


def most_rise(floor, corner, step):
    """The most by which a step can rise; None where it is along no side."""
    beside = [cell_beside(corner, away) for away in BESIDE[step]]
    held = [floor.has(x, y) for x, y in beside]
    if not any(held):
        return None
    if black_to_the_left(corner, step):
        return 1
    return 3 if all(held) else -1


def floor_corners(floor):
    """All corners of the floor's cells, inner ones too, rising."""
    return sorted({corner for cell in floor.cells()
                   for corner in corners(cell, "enw")})


def floor_sides(floor):
    """All steps along sides of the cells: (corner, step, corner behind it)."""
    return [(corner, step, next_corner(corner, step))
            for corner in floor_corners(floor) for step in BESIDE
            if most_rise(floor, corner, step) is not None]


def least_sums(first, sides):
    """The least sum of a way from the first corner to each one, and from which
    corner it comes; then None, or a corner whose sum would fall for ever.

    Sides are (corner, corner behind it, rise).
    """
    least = {first: 0}
    came = {}
    fallen = None
    # A way that comes to no corner twice has fewer sides than there are
    # corners: what falls even in the last round falls by a ring.
    for _ in range(len({here for here, _, _ in sides})):
        fallen = None
        for here, there, rise in sides:
            if here not in least:
                continue
            total = least[here] + rise
            if there not in least or total < least[there]:
                least[there] = total
                came[there] = here
                fallen = there
        if fallen is None:
            break
    return least, came, fallen


def ring_behind(falling, came):
    """The corners of a ring that makes sums fall, its first one last, too."""
    corner = falling
    # So many corners back one is on the ring, and not on a way from it.
    for _ in came:
        corner = came[corner]
    around = [corner, came[corner]]
    while around[-1] != corner:
        around.append(came[around[-1]])
    return around[::-1]


def word_along(around):
    """The word that leads from each of the corners to the next one."""
    word = ""
    for at in range(1, len(around)):
        for step in BESIDE:
            if next_corner(around[at - 1], step) == around[at]:
                word = word + step
    return word


def middle_side(x, y, letter):
    """The ends of the side between the two cells of a piece."""
    return next_corner((x, y), letter), (x + 1, y + 1)


def laying_by(floor, told):
    """The pieces through which the told heights rise by 3, or by -3."""
    laying = []
    for x, y in floor.cells():
        for letter in LETTERS:
            here, there = middle_side(x, y, letter)
            if abs(told[there] - told[here]) == 3:
                laying.append((x, y, letter))
    return laying
