"""Points 2 and 3: what a floor is, its refusals, its rim, and rim_from."""

import unittest

from rimword.errors import BadFloor, FloorError, NoSeam
from rimword.floors import Floor, rim_from
from samples import (BENT, CUP, FORTY, ONE, RING, SQUARE, STAIR, has_one_rim,
                     sides_to_the_left, subsets, way)

GOOD = [ONE, SQUARE, BENT, FORTY, STAIR, CUP, [(11, 11)], [(0, 11), (1, 11)]]


def why_not(cells):
    """The word of the refusal, or None for a floor."""
    try:
        Floor(cells)
    except BadFloor as refusal:
        return refusal.why
    return None


class Cells(unittest.TestCase):

    def test_floors_of_one_of_several_and_of_forty_cells(self):
        for cells in GOOD:
            self.assertEqual(Floor(cells).cells(), sorted(cells))

    def test_all_places_of_one_cell(self):
        for x in range(12):
            for y in range(12):
                self.assertEqual(Floor([(x, y)]).cells(), [(x, y)])

    def test_a_floor_along_the_whole_board(self):
        row = [(x, 11) for x in range(12)]
        column = [(11, y) for y in range(12)]
        self.assertEqual(Floor(row).cells(), row)
        self.assertEqual(Floor(column[::-1]).cells(), column)

    def test_cells_rise_by_x_then_by_y(self):
        self.assertEqual(Floor([(1, 1), (0, 1), (1, 0), (0, 0)]).cells(),
                         [(0, 0), (0, 1), (1, 0), (1, 1)])
        self.assertEqual(Floor([(10, 2), (9, 2), (9, 3)]).cells(),
                         [(9, 2), (9, 3), (10, 2)])

    def test_has_answers_for_any_x_and_y(self):
        for cells in GOOD:
            floor = Floor(cells)
            for x in range(-14, 15):
                for y in range(-14, 15):
                    self.assertIs(floor.has(x, y), (x, y) in cells)
            self.assertIs(floor.has(1000, -1000), False)

    def test_the_list_handed_in_stays_as_it_was(self):
        cells = [(2, 1), (0, 1), (1, 1)]
        Floor(cells)
        self.assertEqual(cells, [(2, 1), (0, 1), (1, 1)])

    def test_a_refused_list_stays_as_it_was(self):
        cells = [(2, 1), (0, 1), (2, 1)]
        self.assertEqual(why_not(cells), "twice")
        self.assertEqual(cells, [(2, 1), (0, 1), (2, 1)])

    def test_a_change_of_the_list_handed_in_changes_nothing(self):
        cells = [(2, 1), (1, 1)]
        floor = Floor(cells)
        cells.append((0, 1))
        cells[0] = (8, 8)
        self.assertEqual(floor.cells(), [(1, 1), (2, 1)])
        self.assertFalse(floor.has(0, 1) or floor.has(8, 8))
        self.assertEqual(floor.rim(), "eenwws")
        self.assertEqual(floor.first(), (1, 1))

    def test_a_change_of_a_told_list_changes_nothing(self):
        floor = Floor([(1, 1), (2, 1)])
        told = floor.cells()
        told.append((3, 1))
        told[0] = (8, 8)
        self.assertEqual(floor.cells(), [(1, 1), (2, 1)])
        self.assertFalse(floor.has(3, 1) or floor.has(8, 8))
        self.assertEqual(floor.rim(), "eenwws")

    def test_asked_again_the_same_is_told(self):
        floor = Floor(STAIR)
        for ask in (floor.cells, floor.first, floor.rim):
            self.assertEqual(ask(), ask())
            self.assertEqual(ask(), getattr(Floor(STAIR[::-1]),
                                            ask.__name__)())

    def test_kinds_of_values(self):
        floor = Floor(SQUARE)
        self.assertIs(type(floor.cells()), list)
        self.assertEqual({type(cell) for cell in floor.cells()}, {tuple})
        self.assertIs(type(floor.first()), tuple)
        self.assertIs(type(floor.rim()), str)


class Refusals(unittest.TestCase):

    def test_many(self):
        self.assertEqual(why_not([]), "many")
        self.assertIsNone(why_not(FORTY))
        self.assertEqual(why_not([*FORTY, (0, 4)]), "many")
        self.assertEqual(why_not([(x, y) for x in range(12)
                                  for y in range(12)]), "many")

    def test_a_cell_beyond_each_of_the_four_sides(self):
        for cell in ((-1, 0), (0, -1), (12, 0), (0, 12), (-1, 11), (11, -1),
                     (12, 11), (11, 12), (-12, 5), (5, 100)):
            self.assertEqual(why_not([cell]), "cell", cell)

    def test_a_cell_beyond_that_would_go_on_the_floor(self):
        self.assertEqual(why_not([(11, 0), (12, 0)]), "cell")
        self.assertEqual(why_not([(0, 11), (0, 12)]), "cell")
        self.assertEqual(why_not([(0, 0), (-1, 0)]), "cell")
        self.assertEqual(why_not([(0, 0), (0, -1)]), "cell")

    def test_twice(self):
        self.assertEqual(why_not([(0, 0), (0, 0)]), "twice")
        self.assertEqual(why_not([(0, 0), (1, 0), (0, 0)]), "twice")
        self.assertEqual(why_not([*SQUARE, SQUARE[-1]]), "twice")

    def test_a_hole(self):
        self.assertEqual(why_not(RING), "rim")
        wide = [(x, y) for x in range(5) for y in range(4)
                if not (0 < x < 4 and 0 < y < 3)]
        self.assertEqual(why_not(wide), "rim")

    def test_two_floors_apart(self):
        self.assertEqual(why_not([(0, 0), (2, 0)]), "rim")
        self.assertEqual(why_not([(0, 0), (11, 11)]), "rim")
        self.assertEqual(why_not([*SQUARE, (4, 4), (5, 4)]), "rim")

    def test_two_that_meet_in_a_corner_alone(self):
        self.assertEqual(why_not([(0, 0), (1, 1)]), "rim")
        self.assertEqual(why_not([(1, 0), (0, 1)]), "rim")

    def test_a_floor_that_meets_itself_in_a_corner(self):
        self.assertEqual(why_not(RING[1:]), "rim")
        self.assertEqual(why_not([(0, 0), (1, 0), (2, 0), (2, 1), (1, 2),
                                  (0, 1), (0, 2)]), "rim")

    def test_many_is_told_ahead_of_all_others(self):
        self.assertEqual(why_not([(12, 0)] * 41), "many")
        self.assertEqual(why_not([(0, 0)] * 41), "many")
        self.assertEqual(why_not([*FORTY[:39], (0, 9), (-1, 0)]), "many")

    def test_cell_and_twice_whichever_comes_first(self):
        self.assertEqual(why_not([(0, 0), (0, 0), (12, 0)]), "twice")
        self.assertEqual(why_not([(0, 0), (12, 0), (0, 0)]), "cell")
        self.assertEqual(why_not([(12, 0), (12, 0)]), "cell")
        self.assertEqual(why_not([(0, 0), (1, 0), (1, 0), (0, 0), (0, 99)]),
                         "twice")

    def test_rim_is_told_last(self):
        self.assertEqual(why_not([(0, 0), (5, 5), (5, 5)]), "twice")
        self.assertEqual(why_not([(0, 0), (5, 5), (5, -1)]), "cell")
        self.assertEqual(why_not([*RING, (3, 12)]), "cell")

    def test_every_list_of_cells_of_a_small_box(self):
        for cells in subsets(4, 3):
            self.assertEqual(why_not(cells),
                             None if has_one_rim(cells) else "rim", cells)

    def test_the_refusal_is_a_floor_error(self):
        with self.assertRaises(FloorError):
            Floor([])


class Rim(unittest.TestCase):

    def test_first_and_rim(self):
        for cells, first, word in [
                (ONE, (0, 0), "enws"),
                ([(11, 11)], (11, 11), "enws"),
                (SQUARE, (0, 0), "eennwwss"),
                (BENT, (3, 2), "eennwsws"),
                (STAIR, (2, 0), "ennwwwsees"),
                (CUP, (0, 0), "eeennwswnwss"),
                (FORTY, (0, 0), "e" * 10 + "nnnn" + "w" * 10 + "ssss")]:
            floor = Floor(cells)
            self.assertEqual(floor.first(), first)
            self.assertEqual(floor.rim(), word)

    def test_the_order_of_the_cells_does_not_matter(self):
        self.assertEqual(Floor(STAIR[::-1]).rim(), Floor(STAIR).rim())
        self.assertEqual(Floor(STAIR[::-1]).first(), (2, 0))

    def test_the_first_corner_has_the_least_y_ahead_of_the_least_x(self):
        self.assertEqual(Floor([(0, 1), (1, 1), (1, 0)]).first(), (1, 0))
        self.assertEqual(Floor([(5, 3), (4, 3), (6, 3)]).first(), (4, 3))

    def test_the_rims_of_all_floors_of_a_small_box(self):
        for cells in subsets(4, 3):
            if not has_one_rim(cells):
                continue
            floor = Floor(cells)
            told = way(floor.first(), floor.rim())
            # Back at the first corner, and at no other one twice.
            self.assertEqual(told[0], told[-1])
            self.assertEqual(len(set(told[1:])), len(floor.rim()))
            self.assertEqual(
                set(sides_to_the_left(cells, floor.first(), floor.rim())),
                {(True, False)})
            y, x = min((y, x) for x, y in cells)
            self.assertEqual(floor.first(), (x, y))


class RimFrom(unittest.TestCase):

    def test_from_the_first_corner_it_is_the_rim(self):
        for cells in GOOD:
            floor = Floor(cells)
            self.assertEqual(rim_from(floor, floor.first()), floor.rim())

    def test_from_each_corner(self):
        self.assertEqual(
            [rim_from(Floor(ONE), corner)
             for corner in ((0, 0), (1, 0), (1, 1), (0, 1))],
            ["enws", "nwse", "wsen", "senw"])
        for cells in GOOD:
            floor = Floor(cells)
            around = way(floor.first(), floor.rim())[:-1]
            for at, corner in enumerate(around):
                word = rim_from(floor, corner)
                self.assertEqual(way(corner, word),
                                 around[at:] + around[:at] + [corner])

    def test_no_seam_for_each_other_corner(self):
        for cells in GOOD:
            floor = Floor(cells)
            around = way(floor.first(), floor.rim())
            for x in range(-2, 15):
                for y in range(-2, 15):
                    if (x, y) in around:
                        continue
                    with self.assertRaises(NoSeam):
                        rim_from(floor, (x, y))

    def test_no_seam_within_the_cells(self):
        with self.assertRaises(NoSeam):
            rim_from(Floor(SQUARE), (1, 1))
        with self.assertRaises(NoSeam):
            rim_from(Floor(FORTY), (5, 2))

    def test_no_seam_far_away(self):
        for corner in ((500, 500), (-1, -1), (0, -700)):
            with self.assertRaises(NoSeam):
                rim_from(Floor(SQUARE), corner)

    def test_the_floor_stays_as_it_was(self):
        floor = Floor(STAIR)
        rim_from(floor, (0, 2))
        self.assertEqual(floor.rim(), "ennwwwsees")
        self.assertEqual(floor.first(), (2, 0))
        self.assertEqual(floor.cells(), sorted(STAIR))


if __name__ == "__main__":
    unittest.main()
