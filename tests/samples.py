"""Floors for the tests, and plain second ways to the same answers."""

from itertools import combinations

ONE = [(0, 0)]
SQUARE = [(0, 0), (1, 0), (0, 1), (1, 1)]
BENT = [(3, 2), (4, 2), (4, 3)]
# Forty cells: four full rows of ten.
FORTY = [(x, y) for y in range(4) for x in range(10)]
# The first corner is not the least one: (2, 0), though (0, 1) is a cell's.
STAIR = [(2, 0), (2, 1), (1, 1), (0, 1)]
# The rim goes in and out again.
CUP = [(0, 0), (1, 0), (2, 0), (0, 1), (2, 1)]
RING = [(x, y) for x in range(3) for y in range(3) if (x, y) != (1, 1)]

MOVES = {"e": (1, 0), "n": (0, 1), "w": (-1, 0), "s": (0, -1)}


def way(corner, word):
    """The corners of a way, one after the other."""
    found = [corner]
    for step in word:
        x, y = found[-1]
        found.append((x + MOVES[step][0], y + MOVES[step][1]))
    return found


def plainly_reduced(word):
    """Steps that go back at once are taken out until none is left."""
    while True:
        shorter = word
        for pair in ("ew", "we", "ns", "sn"):
            shorter = shorter.replace(pair, "", 1)
        if shorter == word:
            return word
        word = shorter


def subsets(wide, high):
    """Every list of one or more cells of a box, rising."""
    box = [(x, y) for x in range(wide) for y in range(high)]
    for many in range(1, len(box) + 1):
        for cells in combinations(box, many):
            yield list(cells)


def in_one_part(cells):
    """Whether one comes from each cell to each other one by sides."""
    left = set(cells)
    reached = [left.pop()]
    for x, y in reached:
        for right, up in MOVES.values():
            if (x + right, y + up) in left:
                left.remove((x + right, y + up))
                reached.append((x + right, y + up))
    return not left


def has_one_rim(cells):
    """One part, no hole, and nowhere two cells that meet in a corner alone."""
    held = set(cells)
    xs = [x for x, y in cells]
    ys = [y for x, y in cells]
    box = [(x, y) for x in range(min(xs) - 1, max(xs) + 2)
           for y in range(min(ys) - 1, max(ys) + 2)]
    for x, y in box:
        rising = (x, y) in held, (x + 1, y + 1) in held
        falling = (x + 1, y) in held, (x, y + 1) in held
        if sorted([rising, falling]) == [(False, False), (True, True)]:
            return False
    beyond = [cell for cell in box if cell not in held]
    return in_one_part(cells) and in_one_part(beyond)


def sides_to_the_left(cells, corner, word):
    """For each step of a word the cell to its left and that to its right."""
    left = {"e": (0, 0), "n": (-1, 0), "w": (-1, -1), "s": (0, -1)}
    right = {"e": (0, -1), "n": (0, 0), "w": (-1, 0), "s": (-1, -1)}
    held = set(cells)
    told = []
    for (x, y), step in zip(way(corner, word), word):
        told.append(((x + left[step][0], y + left[step][1]) in held,
                     (x + right[step][0], y + right[step][1]) in held))
    return told


DOMINOES = [[(0, 0), (1, 0)], [(0, 0), (0, 1)]]
BARS = [[(0, 0), (1, 0), (2, 0)], [(0, 0), (0, 1), (0, 2)]]
# The four bent pieces of three cells; the last one's first cell, by rows, is
# not at its least x.
BENDS = [[(0, 0), (1, 0), (0, 1)], [(0, 0), (1, 0), (1, 1)],
         [(0, 0), (0, 1), (1, 1)], [(1, 0), (0, 1), (1, 1)]]
# Pieces handed in anywhere, and with their cells in any order.
MIXED = [[(9, 4)], [(11, 10), (11, 11)], [(5, 6), (4, 6), (6, 6), (6, 5)],
         [(3, 3), (2, 2), (3, 2), (2, 3)]]
ALIKE = [[(0, 0)], [(1, 0), (0, 0)], [(7, 7)]]
SETS = [DOMINOES, BARS, BENDS, MIXED, ALIKE, [[(0, 0), (1, 0)]]]


def plainly_told(pieces):
    """Each piece, moved to the least x 0 and the least y 0, row by row."""
    told = []
    for cells in pieces:
        left = min(x for x, y in cells)
        low = min(y for x, y in cells)
        rows = sorted((y - low, x - left) for x, y in cells)
        told.append([(x, y) for y, x in rows])
    return told


def every_laying(cells, pieces):
    """Every laying: the greatest cell left is covered in each way."""
    held = set(cells)
    places = []
    for piece, told in enumerate(plainly_told(pieces)):
        for x in range(12):
            for y in range(12):
                covered = {(x + right, y + up) for right, up in told}
                if covered <= held:
                    places.append(((piece, x, y), covered))

    def going_on(left):
        if not left:
            return [[]]
        last = max(left)
        return [[row, *rest] for row, covered in places
                if last in covered and covered <= left
                for rest in going_on(left - covered)]

    return going_on(held)


def in_steps(laying, pieces):
    """The rows by the first cell that each of them covers, by y, then x."""
    # The first cell of a piece is the first one told of it.
    firsts = [cells[0] for cells in plainly_told(pieces)]
    return sorted(laying, key=lambda row: (row[2] + firsts[row[0]][1],
                                           row[1] + firsts[row[0]][0]))


def small_floors(wide, high):
    """The lists of cells of a box that are floors."""
    return [cells for cells in subsets(wide, high) if has_one_rim(cells)]


def led(point, word, pair):
    """Where the word leads one point, looked up step by step."""
    one, other = pair
    for step in word:
        if step == "e":
            point = one[point]
        elif step == "n":
            point = other[point]
        elif step == "w":
            point, = [k for k in range(len(one)) if one[k] == point]
        else:
            point, = [k for k in range(len(other)) if other[k] == point]
    return point
