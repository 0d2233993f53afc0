"""Point 5: the floor of two, and the corner from which the rims make it."""

import unittest
from itertools import product
from unittest import mock

from rimword.errors import BadFloor, NoSeam
from rimword.floors import Floor, joined, rim_from, seam
from samples import (CUP, FORTY, ONE, SQUARE, has_one_rim, plainly_reduced,
                     way)


def why_not(ask, one, other):
    """The word with which joined or seam refuses two floors, or None."""
    try:
        ask(Floor(one), Floor(other))
    except BadFloor as refusal:
        return refusal.why
    return None


def around(floor):
    return set(way(floor.first(), floor.rim()))


def seams(one, other):
    """All corners from which the rims make the joined floor's, rising."""
    whole = Floor(one.cells() + other.cells())
    return [corner
            for corner in sorted(around(one) & around(other) & around(whole))
            if plainly_reduced(rim_from(one, corner) + rim_from(other, corner))
            == rim_from(whole, corner)]


def pairs_of_floors(wide, high):
    """Two lists of cells of a box each, every two floors without a cell
    in common."""
    box = [(x, y) for x in range(wide) for y in range(high)]
    for signs in product((0, 1, 2), repeat=len(box)):
        one = [cell for cell, sign in zip(box, signs) if sign == 1]
        other = [cell for cell, sign in zip(box, signs) if sign == 2]
        if one and other and has_one_rim(one) and has_one_rim(other):
            yield one, other


BAD = [
    ("twice", SQUARE, ONE),
    ("twice", ONE, ONE),
    ("twice", SQUARE, [(1, 1), (2, 1)]),
    ("rim", ONE, [(2, 0)]),
    ("rim", SQUARE, [(7, 7), (8, 7)]),
    ("rim", ONE, [(1, 1)]),
    ("rim", [(1, 0)], [(0, 1)]),
    ("rim", CUP, [(0, 2), (1, 2), (2, 2)]),
    ("many", FORTY, [(0, 4)]),
    ("many", FORTY[:21], [(x, y) for y in (5, 6) for x in range(10)]),
    ("many", FORTY, ONE),
    ("many", FORTY, FORTY),
]


class Joined(unittest.TestCase):

    def test_two_side_by_side(self):
        floor = joined(Floor(SQUARE), Floor([(2, 0)]))
        self.assertIsInstance(floor, Floor)
        self.assertEqual(floor.cells(),
                         [(0, 0), (0, 1), (1, 0), (1, 1), (2, 0)])
        self.assertEqual(floor.rim(), "eeenwnwwss")
        self.assertEqual(floor.first(), (0, 0))

    def test_one_above_the_other(self):
        floor = joined(Floor([(3, 3), (4, 3)]), Floor([(3, 2)]))
        self.assertEqual(floor.cells(), [(3, 2), (3, 3), (4, 3)])
        self.assertEqual(floor.first(), (3, 2))

    def test_one_that_fills_the_other(self):
        floor = joined(Floor(CUP), Floor([(1, 1)]))
        self.assertEqual(floor.rim(), "eeennwwwss")

    def test_forty_cells_together(self):
        floor = joined(Floor(FORTY[:20]), Floor(FORTY[20:]))
        self.assertEqual(floor.cells(), sorted(FORTY))

    def test_which_comes_first_does_not_matter(self):
        one, other = Floor(CUP), Floor([(3, 0)])
        self.assertEqual(joined(one, other).cells(),
                         joined(other, one).cells())

    def test_what_is_refused(self):
        for why, one, other in BAD:
            self.assertEqual(why_not(joined, one, other), why)
            self.assertEqual(why_not(joined, other, one), why)

    def test_both_stay_as_they_were(self):
        one, other = Floor(ONE), Floor([(1, 0)])
        joined(one, other).cells().append((5, 5))
        self.assertEqual((one.cells(), one.rim()), ([(0, 0)], "enws"))
        self.assertEqual((other.cells(), other.rim()), ([(1, 0)], "enws"))

    def test_every_two_floors_of_a_small_box(self):
        for one, other in pairs_of_floors(3, 3):
            fits = has_one_rim(one + other)
            self.assertEqual(why_not(joined, one, other),
                             None if fits else "rim", (one, other))


class Seam(unittest.TestCase):

    def test_two_cells(self):
        west, east = Floor(ONE), Floor([(1, 0)])
        south, north = Floor(ONE), Floor([(0, 1)])
        self.assertEqual(seam(west, east), (1, 1))
        self.assertEqual(seam(east, west), (1, 0))
        self.assertEqual(seam(south, north), (0, 1))
        self.assertEqual(seam(north, south), (1, 1))

    def test_the_rims_from_it(self):
        one, other = Floor(SQUARE), Floor([(2, 1), (2, 2), (1, 2)])
        corner = seam(one, other)
        self.assertEqual(corner, (1, 2))
        self.assertEqual(rim_from(one, corner), "wsseennw")
        self.assertEqual(rim_from(other, corner), "esennwws")
        self.assertEqual(plainly_reduced("wsseennw" + "esennwws"),
                         rim_from(joined(one, other), corner))

    def test_every_two_floors_of_a_small_box(self):
        many = 0
        for one, other in pairs_of_floors(3, 3):
            if has_one_rim(one + other):
                one, other = Floor(one), Floor(other)
                self.assertEqual(seam(one, other), seams(one, other)[0])
                many = many + 1
        self.assertGreater(many, 1000)

    def test_twenty_cells_together(self):
        one, other = Floor(FORTY[:10]), Floor(FORTY[10:20])
        self.assertEqual(seam(one, other), seams(one, other)[0])
        self.assertEqual(seam(one, other), (0, 1))

    def test_bad_floor_as_by_joined(self):
        for why, one, other in BAD:
            self.assertEqual(why_not(seam, one, other), why)
            self.assertEqual(why_not(seam, other, one), why)

    def test_no_seam_where_no_corner_does(self):
        # Two floors whose cells are a floor always have a seam, so that the
        # joined floor is put there by hand: once with corners of both rims
        # that lead nowhere, and once without any.
        for cells in ([(1, 0)], [(8, 8)]):
            with mock.patch("rimword.floors.joined",
                            lambda one, other: Floor(cells)):
                with self.assertRaises(NoSeam):
                    seam(Floor(ONE), Floor([(1, 0)]))

    def test_both_stay_as_they_were(self):
        one, other = Floor(ONE), Floor([(1, 0)])
        seam(one, other)
        self.assertEqual((one.cells(), one.rim()), ([(0, 0)], "enws"))
        self.assertEqual((other.cells(), other.rim()), ([(1, 0)], "enws"))


if __name__ == "__main__":
    unittest.main()
