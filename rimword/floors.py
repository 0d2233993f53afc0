"""Floors of cells, their rims, and two floors side by side."""

from rimword.errors import BadFloor, NoSeam
from rimword.words import corners, reduced

MOST_CELLS = 40
LAST = 11

# Each side of a cell (x, y): the step along it with the cell to its left, how
# far from (x, y) the step begins, and how far away the cell to its right is.
SIDES = (
    ("e", (0, 0), (0, -1)),
    ("n", (1, 0), (1, 0)),
    ("w", (1, 1), (0, 1)),
    ("s", (0, 1), (-1, 0)),
)


class Floor:
    """A floor: cells whose rim is one way that comes to no corner twice."""

    def __init__(self, cells):
        check_cells(cells)
        rising = sorted([(x, y) for x, y in cells])
        # A dict keeps the rising order, and is asked for a cell at once.
        self._cells = {cell: True for cell in rising}
        self._first = first_corner(rising)
        self._rim = rim_word(self._first, rim_steps(self._cells))

    def cells(self):
        """The cells, rising."""
        return list(self._cells)

    def has(self, x, y):
        """Whether (x, y) is a cell of the floor."""
        return (x, y) in self._cells

    def first(self):
        """The corner at which the rim begins."""
        return self._first

    def rim(self):
        """The word once along the rim, the cells to its left."""
        return self._rim


def check_cells(cells):
    """Refuse cells that are too many, beyond the board, or told twice."""
    if not 1 <= len(cells) <= MOST_CELLS:
        raise BadFloor("many")
    seen = set()
    for x, y in cells:
        if not (0 <= x <= LAST and 0 <= y <= LAST):
            raise BadFloor("cell")
        if (x, y) in seen:
            raise BadFloor("twice")
        seen.add((x, y))


def first_corner(cells):
    """(x, y) of the cell with the least y, of several with the least x."""
    least = min([y for x, y in cells])
    return (min([x for x, y in cells if y == least]), least)


def rim_steps(held):
    """For each corner of the rim the step that leaves it."""
    leaving = {}
    for x, y in held:
        for step, (right, up), (aside, beyond) in SIDES:
            if (x + aside, y + beyond) in held:
                continue
            corner = (x + right, y + up)
            if corner in leaving:
                raise BadFloor("rim")
            leaving[corner] = step
    return leaving


def rim_word(first, leaving):
    """The word of the steps from the first corner on, until back at it."""
    word = leaving[first]
    corner = corners(first, word)[-1]
    while corner != first:
        step = leaving[corner]
        word = word + step
        corner = corners(corner, step)[-1]
    # Steps that the way never took are the rim of a hole, or of another part.
    if len(word) < len(leaving):
        raise BadFloor("rim")
    return word


def rim_corners(floor):
    """The corners of the rim, each once, from the first one on."""
    return corners(floor.first(), floor.rim())[:-1]


def rim_from(floor, corner):
    """The rim's word, begun at this corner of it."""
    around = rim_corners(floor)
    if corner not in around:
        raise NoSeam("the corner is not the rim's")
    at = around.index(corner)
    word = floor.rim()
    return word[at:] + word[:at]


def joined(one, other):
    """The floor of the cells of both."""
    return Floor(one.cells() + other.cells())


def seam(one, other):
    """The least corner from which both rims make the joined floor's."""
    whole = joined(one, other)
    for corner in shared_corners(one, other, whole):
        both = rim_from(one, corner) + rim_from(other, corner)
        if reduced(both) == rim_from(whole, corner):
            return corner
    raise NoSeam("no corner of both rims is a seam")


def shared_corners(one, other, whole):
    """The corners that lie on all three rims, rising."""
    beside = rim_corners(other)
    around = rim_corners(whole)
    return sorted([corner for corner in rim_corners(one)
                   if corner in beside and corner in around])
