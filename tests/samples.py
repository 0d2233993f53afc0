"""Floors for the tests, and plain second ways to the same answers."""

from itertools import combinations

ONE = [(0, 0)]
SQUARE = [(0, 0), (1, 0), (0, 1), (1, 1)]
BENT = [(3, 2), (4, 2), (4, 3)]
# Forty cells: four full rows of ten.
FORTY = [(x, y) for y in range(4) for x in range(10)]
# The first corner is not the least one: (2, 0), though (0, 1) is a cell's.
STAIR = [(2, 0), (2, 1), (1, 1), (0, 1)]
# The rim goes in and out again.
CUP = [(0, 0), (1, 0), (2, 0), (0, 1), (2, 1)]
RING = [(x, y) for x in range(3) for y in range(3) if (x, y) != (1, 1)]

MOVES = {"e": (1, 0), "n": (0, 1), "w": (-1, 0), "s": (0, -1)}


def way(corner, word):
    """The corners of a way, one after the other."""
    found = [corner]
    for step in word:
        x, y = found[-1]
        found.append((x + MOVES[step][0], y + MOVES[step][1]))
    return found


def plainly_reduced(word):
    """Steps that go back at once are taken out until none is left."""
    while True:
        shorter = word
        for pair in ("ew", "we", "ns", "sn"):
            shorter = shorter.replace(pair, "", 1)
        if shorter == word:
            return word
        word = shorter


def subsets(wide, high):
    """Every list of one or more cells of a box, rising."""
    box = [(x, y) for x in range(wide) for y in range(high)]
    for many in range(1, len(box) + 1):
        for cells in combinations(box, many):
            yield list(cells)


def in_one_part(cells):
    """Whether one comes from each cell to each other one by sides."""
    left = set(cells)
    reached = [left.pop()]
    for x, y in reached:
        for right, up in MOVES.values():
            if (x + right, y + up) in left:
                left.remove((x + right, y + up))
                reached.append((x + right, y + up))
    return not left


def has_one_rim(cells):
    """One part, no hole, and nowhere two cells that meet in a corner alone."""
    held = set(cells)
    xs = [x for x, y in cells]
    ys = [y for x, y in cells]
    box = [(x, y) for x in range(min(xs) - 1, max(xs) + 2)
           for y in range(min(ys) - 1, max(ys) + 2)]
    for x, y in box:
        rising = (x, y) in held, (x + 1, y + 1) in held
        falling = (x + 1, y) in held, (x, y + 1) in held
        if sorted([rising, falling]) == [(False, False), (True, True)]:
            return False
    beyond = [cell for cell in box if cell not in held]
    return in_one_part(cells) and in_one_part(beyond)


# The cells to the left and to the right of a step from (0, 0).
LEFT = {"e": (0, 0), "n": (-1, 0), "w": (-1, -1), "s": (0, -1)}
RIGHT = {"e": (0, -1), "n": (0, 0), "w": (-1, 0), "s": (-1, -1)}


def cells_by(corner, step):
    """The cell to the left of a step, and that to its right."""
    x, y = corner
    return [(x + beside[step][0], y + beside[step][1])
            for beside in (LEFT, RIGHT)]


def sides_to_the_left(cells, corner, word):
    """For each step whether the cell to its left is held, and to its right."""
    held = set(cells)
    told = []
    for here, step in zip(way(corner, word), word):
        left, right = cells_by(here, step)
        told.append((left in held, right in held))
    return told


DOMINOES = [[(0, 0), (1, 0)], [(0, 0), (0, 1)]]
BARS = [[(0, 0), (1, 0), (2, 0)], [(0, 0), (0, 1), (0, 2)]]
# The four bent pieces of three cells; the last one's first cell, by rows, is
# not at its least x.
BENDS = [[(0, 0), (1, 0), (0, 1)], [(0, 0), (1, 0), (1, 1)],
         [(0, 0), (0, 1), (1, 1)], [(1, 0), (0, 1), (1, 1)]]
# Pieces handed in anywhere, and with their cells in any order.
MIXED = [[(9, 4)], [(11, 10), (11, 11)], [(5, 6), (4, 6), (6, 6), (6, 5)],
         [(3, 3), (2, 2), (3, 2), (2, 3)]]
ALIKE = [[(0, 0)], [(1, 0), (0, 0)], [(7, 7)]]
SETS = [DOMINOES, BARS, BENDS, MIXED, ALIKE, [[(0, 0), (1, 0)]]]


def plainly_told(pieces):
    """Each piece, moved to the least x 0 and the least y 0, row by row."""
    told = []
    for cells in pieces:
        left = min(x for x, y in cells)
        low = min(y for x, y in cells)
        rows = sorted((y - low, x - left) for x, y in cells)
        told.append([(x, y) for y, x in rows])
    return told


def every_laying(cells, pieces):
    """Every laying: the greatest cell left is covered in each way."""
    held = set(cells)
    places = []
    for piece, told in enumerate(plainly_told(pieces)):
        for x in range(12):
            for y in range(12):
                covered = {(x + right, y + up) for right, up in told}
                if covered <= held:
                    places.append(((piece, x, y), covered))

    def going_on(left):
        if not left:
            return [[]]
        last = max(left)
        return [[row, *rest] for row, covered in places
                if last in covered and covered <= left
                for rest in going_on(left - covered)]

    return going_on(held)


def in_steps(laying, pieces):
    """The rows by the first cell that each of them covers, by y, then x."""
    # The first cell of a piece is the first one told of it.
    firsts = [cells[0] for cells in plainly_told(pieces)]
    return sorted(laying, key=lambda row: (row[2] + firsts[row[0]][1],
                                           row[1] + firsts[row[0]][0]))


def small_floors(wide, high):
    """The lists of cells of a box that are floors."""
    return [cells for cells in subsets(wide, high) if has_one_rim(cells)]


def led(point, word, pair):
    """Where the word leads one point, looked up step by step."""
    one, other = pair
    for step in word:
        if step == "e":
            point = one[point]
        elif step == "n":
            point = other[point]
        elif step == "w":
            point, = [k for k in range(len(one)) if one[k] == point]
        else:
            point, = [k for k in range(len(other)) if other[k] == point]
    return point


def box(wide, high, right=0, up=0):
    """The cells of a box, moved."""
    return [(x + right, y + up) for x in range(wide) for y in range(high)]


def drawn(*rows):
    """The cells that rows of signs draw, the last one at y 0."""
    return sorted((x, y) for y, row in enumerate(rows[::-1])
                  for x, sign in enumerate(row) if sign == "#")


def moved(cells, right, up):
    return [(x + right, y + up) for x, y in cells]


def exchanged(cells):
    """x and y the other way."""
    return [(y, x) for x, y in cells]


# As many black cells as others, and yet no laying with dominoes: two cells
# have the same one cell beside them.
HOOK = drawn("..#.", "####", ".#..")
# Twice as wide as high, the ends knocked off.
TORN = drawn("#..#", "####", "#..#")
# Forty cells, as many of them black as not: with many layings, and with none.
BROAD = drawn("......####..", "......####..", "....########",
              "....########", "....########", "....########")
RAGGED = drawn("...#........", "..##.##.....", "...########.", "..##########",
               ".....######.", "....########", "......###...")
BRANCHED = drawn(".......#....", "......##....", "......#..#..",
                 ".....#####..", ".....#####..", ".....####..#",
                 ".....#######", "....########", ".....##.###.")


def grown(many, chance):
    """A floor of so many cells, one beside the other."""
    cells = [(chance.randrange(12), chance.randrange(12))]
    while len(cells) < many:
        x, y = chance.choice(cells)
        right, up = chance.choice([(1, 0), (0, 1), (-1, 0), (0, -1)])
        cell = (x + right, y + up)
        if cell not in cells and min(cell) >= 0 and max(cell) <= 11 and \
                has_one_rim([*cells, cell]):
            cells.append(cell)
    return cells


def piece_cells(piece):
    """The two cells of (x, y, "e") or (x, y, "n")."""
    x, y, letter = piece
    return [(x, y), (x + 1, y) if letter == "e" else (x, y + 1)]


def every_two_laying(cells):
    """Every laying with pieces of two cells, each one rising."""
    return [sorted((x, y, "en"[piece]) for piece, x, y in laying)
            for laying in every_laying(cells, DOMINOES)]


def sides_of(cells):
    """Every step along a side of the cells: corner, letter, corner."""
    return [(corner, step, way(corner, step)[1])
            for corner in sorted({(x + right, y + up) for x, y in cells
                                  for right in (0, 1) for up in (0, 1)})
            for step in "enws" if set(cells_by(corner, step)) & set(cells)]


def rise_by(corner, step, laying):
    """By how much a step rises on a laid floor."""
    left, right = cells_by(corner, step)
    sign = 1 if sum(left) % 2 == 0 else -1
    through = any(sorted(piece_cells(piece)) == sorted([left, right])
                  for piece in laying)
    return -3 * sign if through else sign


def most_by(cells, corner, step):
    """The most by which a step can rise; None along no side of the cells."""
    left, right = cells_by(corner, step)
    if left not in cells and right not in cells:
        return None
    if sum(left) % 2 == 0:
        return 1
    return 3 if left in cells and right in cells else -1


def plain_heights(cells, laying):
    """The heights, corner by corner from the first one."""
    low = min(y for x, y in cells)
    first = (min(x for x, y in cells if y == low), low)
    told = {first: 0}
    sides = sides_of(cells)
    while len(told) < len({here for here, _, _ in sides}):
        for here, step, there in sides:
            if here in told:
                rise = rise_by(here, step, laying)
                told.setdefault(there, told[here] + rise)
    return told


def plainly_turned(laying, corner):
    """The laying turned at a corner, or None."""
    x, y = corner
    around = {(x - 1, y - 1), (x, y - 1), (x - 1, y), (x, y)}
    inner = [piece for piece in laying if set(piece_cells(piece)) <= around]
    if len(inner) != 2:
        return None
    outer = [piece for piece in laying if piece not in inner]
    if inner[0][2] == "e":
        return sorted([*outer, (x - 1, y - 1, "n"), (x, y - 1, "n")])
    return sorted([*outer, (x - 1, y - 1, "e"), (x - 1, y, "e")])


def is_ring(cells, corner, word):
    """Whether a way is a ring that shows that there is no laying."""
    mosts = [most_by(cells, here, step)
             for here, step in zip(way(corner, word), word)]
    return (None not in mosts and sum(mosts) < 0
            and way(corner, word)[-1] == corner)
