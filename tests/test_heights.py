"""Points 10 to 12: the highest laying and the lowest, and rings."""

import random
import unittest

from rimword.floors import Floor, rim_from
from rimword.heights import highest, shows_ring
from rimword.laying import laid
from rimword.pieces import dominoes
from rimword.turns import heights, lowest
from rimword.words import inverse
from samples import (BRANCHED, BROAD, CUP, FORTY, HOOK, ONE, RAGGED, SQUARE,
                     STAIR, TORN, box, every_two_laying, exchanged, grown,
                     is_ring, most_by, moved, piece_cells, plain_heights,
                     sides_of, small_floors, way)

SMALL = [*small_floors(4, 3),
         *[moved(cells, 7, 2) for cells in small_floors(3, 3)]]
LAYINGS = [(cells, every_two_laying(cells)) for cells in SMALL]
LAID = [(cells, layings) for cells, layings in LAYINGS if layings]
BARE = [cells for cells, layings in LAYINGS if not layings]


def excess(cells):
    """How many black cells there are more than others."""
    return sum(1 if (x + y) % 2 == 0 else -1 for x, y in cells)


EVEN = [cells for cells in BARE if excess(cells) == 0]


class Case(unittest.TestCase):

    def look_over_laying(self, cells, laying):
        self.assertIs(type(laying), list)
        self.assertEqual({type(piece) for piece in laying}, {tuple})
        self.assertLessEqual({piece[2] for piece in laying}, {"e", "n"})
        self.assertEqual(sorted(cell for piece in laying
                                for cell in piece_cells(piece)), sorted(cells))
        self.assertEqual(laying, sorted(laying))

    def look_over_ring(self, cells, told):
        self.assertIs(type(told), tuple)
        word, corner, ring = told
        self.assertEqual(word, "ring")
        self.assertEqual((type(corner), type(ring)), (tuple, str))
        self.assertTrue(is_ring(cells, corner, ring), told)
        self.assertIs(shows_ring(Floor(cells), corner, ring), True)


class Highest(Case):

    def test_the_square(self):
        # The middle is reached by "en": 1 and 1, or through a piece 1 and -3.
        floor = Floor(SQUARE)
        self.assertEqual(highest(floor), ("laid", [(0, 0, "n"), (1, 0, "n")]))
        self.assertEqual(lowest(floor), [(0, 0, "e"), (0, 1, "e")])
        # Moved by one cell, the black cells are the others: -1 and 3 or -1.
        floor = Floor(moved(SQUARE, 3, 4))
        self.assertEqual(highest(floor), ("laid", [(3, 4, "e"), (3, 5, "e")]))
        self.assertEqual(lowest(floor), [(3, 4, "n"), (4, 4, "n")])

    def test_one_piece(self):
        for cells, piece in (([(0, 0), (1, 0)], (0, 0, "e")),
                             ([(0, 0), (0, 1)], (0, 0, "n")),
                             ([(11, 11), (10, 11)], (10, 11, "e")),
                             ([(11, 11), (11, 10)], (11, 10, "n"))):
            self.assertEqual(highest(Floor(cells)), ("laid", [piece]))
            self.assertEqual(lowest(Floor(cells)), [piece])

    def test_no_laying_is_higher_and_none_lower(self):
        self.assertGreater(len(LAID), 100)
        for cells, layings in LAID:
            floor = Floor(cells)
            word, laying = highest(floor)
            self.assertEqual(word, "laid")
            self.look_over_laying(cells, laying)
            self.look_over_laying(cells, lowest(floor))
            top = plain_heights(cells, laying)
            low = plain_heights(cells, lowest(floor))
            for other in layings:
                told = plain_heights(cells, other)
                for corner, height in told.items():
                    self.assertLessEqual(low[corner], height)
                    self.assertLessEqual(height, top[corner])

    def test_on_greater_floors(self):
        for cells in (box(4, 4), box(4, 5, 3, 6), box(6, 3), box(2, 8, 5, 1),
                      box(12, 2, 0, 9), exchanged(box(5, 4, 1, 0))):
            floor = Floor(cells)
            every = [plain_heights(cells, laying)
                     for laying in every_two_laying(cells)]
            self.assertEqual(heights(floor, highest(floor)[1]),
                             {corner: max(told[corner] for told in every)
                              for corner in every[0]})
            self.assertEqual(heights(floor, lowest(floor)),
                             {corner: min(told[corner] for told in every)
                              for corner in every[0]})

    def test_of_one_laying_both_are_it(self):
        alone = [both for both in LAID if len(both[1]) == 1]
        self.assertGreater(len(alone), 20)
        for cells, layings in alone:
            self.assertEqual(highest(Floor(cells)), ("laid", layings[0]))
            self.assertEqual(lowest(Floor(cells)), layings[0])

    def test_of_several_they_are_not_the_same(self):
        for cells, layings in LAID:
            self.assertEqual(highest(Floor(cells))[1] == lowest(Floor(cells)),
                             len(layings) == 1)

    def test_forty_cells(self):
        for cells in (BROAD, FORTY, exchanged(FORTY), box(8, 5, 2, 3),
                      moved(FORTY, 2, 7)):
            word, laying = highest(Floor(cells))
            self.assertEqual(word, "laid")
            self.look_over_laying(cells, laying)
            low = lowest(Floor(cells))
            self.look_over_laying(cells, low)
            above = plain_heights(cells, laying)
            below = plain_heights(cells, low)
            between = plain_heights(cells, [
                (x, y, "en"[piece])
                for piece, x, y in laid(Floor(cells), dominoes())])
            for corner in above:
                self.assertLessEqual(below[corner], between[corner])
                self.assertLessEqual(between[corner], above[corner])

    def test_no_turn_makes_it_higher(self):
        # Where all steps to a corner rise, or all fall, it can be turned.
        for cells in (BROAD, FORTY, box(6, 6, 1, 1)):
            top = plain_heights(cells, highest(Floor(cells))[1])
            low = plain_heights(cells, lowest(Floor(cells)))
            for x, y in {here for here, _, _ in sides_of(cells)}:
                beside = [(x + 1, y), (x, y + 1), (x - 1, y), (x, y - 1)]
                around = {(x - 1, y - 1), (x - 1, y), (x, y - 1), (x, y)}
                if around <= set(cells):
                    self.assertFalse(all(top[corner] > top[(x, y)]
                                         for corner in beside))
                    self.assertFalse(all(low[corner] < low[(x, y)]
                                         for corner in beside))


class Rings(Case):

    def test_floors_that_dominoes_do_not_lay(self):
        self.assertGreater(len(BARE), 500)
        for cells in BARE:
            self.look_over_ring(cells, highest(Floor(cells)))
            self.assertIsNone(lowest(Floor(cells)))

    def test_as_many_black_cells_as_others(self):
        for cells in [*EVEN, HOOK, TORN, moved(HOOK, 5, 8),
                      exchanged(moved(TORN, 0, 3)), RAGGED, BRANCHED]:
            self.assertEqual(excess(cells), 0)
            self.look_over_ring(cells, highest(Floor(cells)))
            self.assertIsNone(lowest(Floor(cells)))

    def test_an_odd_and_an_even_count_of_cells(self):
        for cells in (ONE, [(1, 0)], [(11, 11)], [(0, 11)], CUP, box(3, 3),
                      box(3, 3, 1, 0), box(5, 7), box(11, 1, 1, 1),
                      [(0, 0), (1, 0), (2, 0), (1, 1)],
                      [(1, 0), (2, 0), (3, 0), (2, 1)]):
            self.look_over_ring(cells, highest(Floor(cells)))
            self.assertIsNone(lowest(Floor(cells)))

    def test_grown_floors(self):
        chance = random.Random(4)
        words = []
        for many in [40] * 40 + [2, 4, 10, 16, 20, 30] * 6:
            cells = grown(many, chance)
            told = highest(Floor(cells))
            words.append(told[0])
            if laid(Floor(cells), dominoes()) is None:
                self.look_over_ring(cells, told)
                self.assertIsNone(lowest(Floor(cells)))
            else:
                self.assertEqual(told[0], "laid")
                self.look_over_laying(cells, told[1])
                self.look_over_laying(cells, lowest(Floor(cells)))
        self.assertEqual(set(words), {"laid", "ring"})


class ShowsRing(Case):

    def ask(self, cells, corner, word):
        told = shows_ring(Floor(cells), corner, word)
        self.assertIs(type(told), bool)
        return told

    def test_a_ring_from_each_of_its_corners(self):
        for cells in [*BARE[::7], HOOK, TORN, RAGGED, BRANCHED]:
            _, corner, word = highest(Floor(cells))
            around = way(corner, word)
            for at in range(len(word)):
                turned = word[at:] + word[:at]
                self.assertTrue(self.ask(cells, around[at], turned))
                # Twice around it is as good a ring.
                self.assertTrue(self.ask(cells, around[at], turned * 2))

    def test_the_empty_word(self):
        for cells in (ONE, HOOK, SQUARE, RAGGED):
            for corner in ((0, 0), (1, 0), (1, 1), (20, 20), (-1, 0)):
                self.assertFalse(self.ask(cells, corner, ""))

    def test_a_rim_either_way_round(self):
        # Around a black cell the rim rises by 4; the way back, by 4 less.
        self.assertFalse(self.ask(ONE, (0, 0), "enws"))
        self.assertTrue(self.ask(ONE, (0, 0), "nesw"))
        self.assertTrue(self.ask([(1, 0)], (1, 0), "enws"))
        self.assertFalse(self.ask([(1, 0)], (1, 0), "nesw"))
        for cells in SMALL:
            floor = Floor(cells)
            self.assertIs(self.ask(cells, floor.first(), floor.rim()),
                          excess(cells) < 0)
            self.assertIs(self.ask(cells, floor.first(), inverse(floor.rim())),
                          excess(cells) > 0)

    def test_a_side_gone_there_and_back(self):
        # At the rim the rises are 0 together, within the floor 4.
        self.assertFalse(self.ask(ONE, (0, 0), "ew"))
        self.assertFalse(self.ask(ONE, (0, 0), "ns"))
        self.assertFalse(self.ask(box(3, 3), (1, 1), "ew"))
        self.assertFalse(self.ask(box(3, 3), (1, 1), "we"))
        self.assertTrue(self.ask(ONE, (0, 0), "neswew"))

    def test_a_way_that_leaves_the_sides(self):
        # Beyond the floor a cell's rim would fall by 4.
        for cells, corner, word in [
                (ONE, (1, 0), "nesw"), (ONE, (1, 0), "enws"),
                (ONE, (1, 1), "nesw"), (ONE, (0, 0), "wnes"),
                (ONE, (0, 0), "wsen"), (ONE, (0, 0), "wenesw"),
                (ONE, (0, 0), "neswsn"), (ONE, (0, 0), "neswwe"),
                (CUP, (1, 1), "enws"), (CUP, (0, 0), "nnneeesssewwww"),
                (ONE, (0, 0), "w"), (ONE, (0, 0), "s" * 60)]:
            self.assertFalse(self.ask(cells, corner, word))
        # The gap of the cup is open above.
        self.assertFalse(self.ask(CUP, (0, 0), "nneeesswww"))
        self.assertFalse(self.ask(CUP, (1, 2), "esw"))

    def test_a_way_that_does_not_come_back(self):
        for word in ("n", "e", "ne", "nes", "neswn", "neswnes"):
            self.assertFalse(self.ask(ONE, (0, 0), word))
        _, corner, word = highest(Floor(HOOK))
        self.assertTrue(self.ask(HOOK, corner, word))
        for at in range(1, len(word)):
            self.assertFalse(self.ask(HOOK, corner, word[:at]))
        self.assertFalse(self.ask(HOOK, corner, word + word[0]))

    def test_a_corner_that_is_none_of_the_floors(self):
        for cells in (ONE, HOOK, RAGGED):
            _, corner, word = highest(Floor(cells))
            for right, up in ((20, 0), (0, -20), (-20, 20), (500, -700)):
                away = (corner[0] + right, corner[1] + up)
                self.assertFalse(self.ask(cells, away, word))
        for corner in ((2, 0), (-1, 0), (0, 2), (2, 2), (0, -1)):
            for word in ("nesw", "enws", "eswn", "wnes", "n", "w", ""):
                self.assertFalse(self.ask(ONE, corner, word))

    def test_a_ring_of_another_floor(self):
        _, corner, word = highest(Floor(HOOK))
        self.assertFalse(self.ask(box(4, 4), corner, word))
        self.assertFalse(self.ask(ONE, corner, word))

    def test_inner_sides_rise_by_three_at_most(self):
        # Around the middle one of nine, a white cell: 12 by its inner sides,
        # and back around it 4.
        nine = box(3, 3, 1, 0)
        self.assertFalse(self.ask(nine, (2, 1), "enws"))
        self.assertFalse(self.ask(nine, (2, 1), "nesw"))
        self.assertTrue(self.ask(nine, (1, 0), Floor(nine).rim()))

    def test_each_inner_side_counts(self):
        # A comb of eleven black cells more: its rim falls by 44, and an inner
        # side, gone there and back, rises by 1 and by 3.
        comb = box(11, 1, 0, 1) + [(x, y) for x in range(0, 11, 2)
                                   for y in (0, 2)]
        self.assertEqual(excess(comb), 11)
        word = inverse(rim_from(Floor(comb), (1, 1)))
        for many in range(14):
            self.assertIs(self.ask(comb, (1, 1), word + "ns" * many),
                          many < 11)
            self.assertIs(self.ask(comb, (1, 1), "ns" * many + word),
                          many < 11)

    def test_never_on_a_floor_that_has_a_laying(self):
        chance = random.Random(2)
        for cells, _ in LAID[::3]:
            floor = Floor(cells)
            sides = sides_of(cells)
            for _ in range(20):
                corner, word = chance.choice(sides)[0], ""
                here = corner
                while len(word) < 40 and (here != corner or not word):
                    _, step, here = chance.choice(
                        [side for side in sides if side[0] == here])
                    word += step
                    self.assertFalse(shows_ring(floor, corner, word))
            for word in (floor.rim(), inverse(floor.rim())):
                self.assertFalse(shows_ring(floor, floor.first(), word))

    def test_against_the_plain_sums(self):
        chance = random.Random(3)
        seen = set()
        for _ in range(3000):
            cells = chance.choice(BARE)
            sides = sides_of(cells)
            corner = chance.choice(sides)[0]
            word, here = "", corner
            while len(word) < 16 and (here != corner or not word):
                # Now and then a step along no side.
                step = chance.choice(
                    [side[1] for side in sides if side[0] == here] * 9
                    + ["e", "n", "w", "s"])
                word, here = word + step, way(here, step)[1]
            told = self.ask(cells, corner, word)
            whole = None not in [most_by(cells, at, step) for at, step
                                 in zip(way(corner, word), word)]
            self.assertIs(told, whole and is_ring(cells, corner, word))
            seen.add((told, whole))
        self.assertEqual(seen, {(True, True), (False, True), (False, False)})


class Handed(Case):

    def test_everything_stays_as_it_was(self):
        for cells in (SQUARE, STAIR, HOOK, BROAD):
            floor = Floor(cells)
            before = (floor.cells(), floor.first(), floor.rim())
            highest(floor)
            lowest(floor)
            shows_ring(floor, floor.first(), floor.rim())
            self.assertEqual(before,
                             (floor.cells(), floor.first(), floor.rim()))

    def test_told_lists_may_be_changed(self):
        for cells in (SQUARE, BROAD):
            floor = Floor(cells)
            once, low = repr(highest(floor)), repr(lowest(floor))
            highest(floor)[1].clear()
            lowest(floor)[0] = (7, 7, "e")
            self.assertEqual(repr(highest(floor)), once)
            self.assertEqual(repr(lowest(floor)), low)

    def test_in_another_order_of_asking(self):
        floors = [Floor(cells) for cells in SMALL[::5]]
        once = [(highest(floor), lowest(floor)) for floor in floors]
        again = [(highest(floor), lowest(floor)) for floor in floors[::-1]]
        self.assertEqual(repr(once), repr(again[::-1]))


if __name__ == "__main__":
    unittest.main()
