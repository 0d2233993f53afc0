"""Pieces: small floors that are moved, but never turned."""

from rimword.errors import BadFloor, BadPieces
from rimword.floors import Floor

MOST_PIECES = 6
MOST_OF_ONE = 8


class Pieces:
    """One to six pieces, each moved so that its least x and least y are 0."""

    def __init__(self, pieces):
        if not 1 <= len(pieces) <= MOST_PIECES:
            raise BadPieces(0, "pieces")
        found = [piece_floor(at, cells) for at, cells in enumerate(pieces)]
        self._told = [moved(floor.cells()) for floor in found]
        # A rim is the same word wherever the piece lies.
        self._rims = [floor.rim() for floor in found]

    def told(self):
        """The moved cells of each piece, by y, then by x."""
        return [list(cells) for cells in self._told]

    def rims(self):
        """Each piece's rim."""
        return list(self._rims)


def piece_floor(at, cells):
    """The piece of this number as a floor, where it was handed in."""
    if len(cells) > MOST_OF_ONE:
        raise BadPieces(at, "many")
    try:
        return Floor(cells)
    except BadFloor as refusal:
        raise BadPieces(at, refusal.why) from None


def moved(cells):
    """The cells, moved to the least x 0 and the least y 0, row by row."""
    left = min([x for x, y in cells])
    low = min([y for x, y in cells])
    return by_rows([(x - left, y - low) for x, y in cells])


def by_rows(cells):
    """The cells by y, then by x."""
    return sorted(cells, key=lambda cell: (cell[1], cell[0]))


def dominoes():
    """The two pieces of two cells: along x, then along y."""
    return Pieces([[(0, 0), (1, 0)], [(0, 0), (0, 1)]])
