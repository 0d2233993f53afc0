"""Layings: a floor covered with pieces, each cell once, and no other."""

from rimword.pieces import by_rows


def is_laid(floor, pieces, laying):
    """Whether the list, in any order, is a laying of the floor."""
    told = pieces.told()
    covered = []
    for piece, x, y in laying:
        if not 0 <= piece < len(told):
            return False
        covered.extend(cells_at(told[piece], x, y))
    return sorted(covered) == floor.cells()


def laid(floor, pieces):
    """The laying with the least list of pieces' numbers, or None."""
    places = all_places(floor, pieces)
    return first_rows(all_cells(places), places, {})


def counted(floor, pieces):
    """How many layings there are."""
    places = all_places(floor, pieces)
    # Where no cell is left, there is one way to go on: with no piece.
    return count_rows(all_cells(places), places, {0: 1})


def cells_at(cells, x, y):
    """The cells, moved by x and y."""
    return [(x + right, y + up) for right, up in cells]


def all_places(floor, pieces):
    """For each cell, by y, then by x, what can lie with it as first cell."""
    # Cells are bits, so that the cells left are one number: it is compared at
    # once, and is a key under which an answer is found again.
    bits = {cell: 1 << at for at, cell in enumerate(by_rows(floor.cells()))}
    told = pieces.told()
    return [places_from(cell, told, bits) for cell in bits]


def places_from(cell, told, bits):
    """The rows of the pieces that fit from this first cell on, with bits."""
    found = []
    for piece, cells in enumerate(told):
        # The first cell of a piece is in its row 0, but not always in column 0.
        x = cell[0] - cells[0][0]
        y = cell[1]
        lying = cells_at(cells, x, y)
        if all([place in bits for place in lying]):
            covered = sum([bits[place] for place in lying])
            found.append(((piece, x, y), covered))
    return found


def all_cells(places):
    """The bits of all cells of the floor."""
    return (1 << len(places)) - 1


def fitting(left, places):
    """What can cover the first cell left, by the pieces' numbers."""
    first = (left & -left).bit_length() - 1
    return [(row, covered) for row, covered in places[first]
            if left & covered == covered]


def first_rows(left, places, stuck):
    """The first laying of the cells left, or None."""
    if left == 0:
        return []
    if left in stuck:
        return None
    for row, covered in fitting(left, places):
        rest = first_rows(left ^ covered, places, stuck)
        if rest is not None:
            return [row] + rest
    stuck[left] = True
    return None


def count_rows(left, places, known):
    """How many layings the cells left have."""
    if left not in known:
        known[left] = sum([count_rows(left ^ covered, places, known)
                           for _, covered in fitting(left, places)])
    return known[left]
