"""Points 11 and 13: heights of layings, and turns from one to another."""

import random
import unittest
from itertools import permutations

from rimword.errors import FloorError, NoTurn
from rimword.floors import Floor
from rimword.heights import highest
from rimword.laying import laid
from rimword.pieces import dominoes
from rimword.turns import heights, lowest, turned, turns
from samples import (BROAD, FORTY, HOOK, ONE, SQUARE, box, every_two_laying,
                     moved, plain_heights, plainly_turned, rise_by, sides_of,
                     small_floors)

ALONG = [(0, 0, "e"), (0, 1, "e")]
UP = [(0, 0, "n"), (1, 0, "n")]
SMALL = [cells for cells in small_floors(4, 3)
         + [moved(cells, 8, 9) for cells in small_floors(3, 2)]
         if every_two_laying(cells)]
# Floors on which there are many layings, and the layings of each.
MANY = [(cells, every_two_laying(cells))
        for cells in (SQUARE, box(4, 3), box(4, 4), box(3, 4, 5, 2),
                      box(6, 2, 1, 0), box(2, 6, 10, 6))]
# A laying of a box four cells wide and two high, and lists that are none.
GOOD = [(0, 0, "n"), (1, 0, "e"), (1, 1, "e"), (3, 0, "n")]
BAD = [
    [], GOOD[1:], GOOD[:-1], GOOD[:1],
    GOOD + GOOD[:1], GOOD + [(1, 0, "n")], GOOD + [(3, 0, "e")],
    GOOD[:3] + [(3, 1, "e")], GOOD[:3] + [(3, 1, "n")],
    GOOD[:3] + [(4, 0, "n")], GOOD[:3] + [(3, -1, "n")],
    GOOD[1:] + [(-1, 0, "e")], GOOD[1:] + [(-1, 0, "n")],
    GOOD + [(9, 9, "e")], GOOD + [(900, -900, "n")], GOOD + [(0, 0, "s")],
    [(0, 0, "n"), (1, 0, "e"), (1, 0, "e"), (3, 0, "n")],
    [(0, 0, "n"), (1, 0, "n"), (1, 1, "e"), (3, 0, "n")],
    [(0, 0, "e"), (1, 0, "e"), (1, 1, "e"), (3, 0, "n")],
    UP, ALONG,
] + [GOOD[:at] + [(*GOOD[at][:2], letter)] + GOOD[at + 1:] for at in range(4)
     for letter in ("w", "s", "", "en", "ne", "E", "N", "x", " e", "0")]


def corners_of(cells):
    return {here for here, _, _ in sides_of(cells)}


def plain_laying(floor):
    """The first laying, as pieces with letters."""
    return [(x, y, "en"[piece]) for piece, x, y in laid(floor, dominoes())]


class Heights(unittest.TestCase):

    def test_the_square(self):
        around = {(0, 0): 0, (1, 0): 1, (2, 0): 0, (2, 1): -1, (2, 2): 0,
                  (1, 2): 1, (0, 2): 0, (0, 1): -1}
        floor = Floor(SQUARE)
        self.assertEqual(heights(floor, UP), {**around, (1, 1): 2})
        self.assertEqual(heights(floor, ALONG), {**around, (1, 1): -2})

    def test_of_one_piece(self):
        self.assertEqual(heights(Floor([(0, 0), (1, 0)]), [(0, 0, "e")]),
                         {(0, 0): 0, (1, 0): 1, (2, 0): 0, (2, 1): -1,
                          (1, 1): -2, (0, 1): -1})
        self.assertEqual(heights(Floor([(5, 0), (5, 1)]), [(5, 0, "n")]),
                         {(5, 0): 0, (6, 0): -1, (6, 1): -2, (6, 2): -1,
                          (5, 2): 0, (5, 1): 1})

    def test_each_corner_of_the_cells(self):
        for cells in [*SMALL, BROAD, FORTY]:
            floor = Floor(cells)
            told = heights(floor, plain_laying(floor))
            self.assertIs(type(told), dict)
            self.assertEqual(set(told), corners_of(cells))
            self.assertEqual({type(height) for height in told.values()}, {int})
            self.assertEqual(told[floor.first()], 0)

    def test_each_step_rises_as_told(self):
        for cells in SMALL:
            for laying in every_two_laying(cells):
                told = heights(Floor(cells), laying)
                for here, step, there in sides_of(cells):
                    self.assertEqual(told[there] - told[here],
                                     rise_by(here, step, laying))

    def test_against_the_plain_heights(self):
        for cells, layings in MANY:
            for laying in layings:
                self.assertEqual(heights(Floor(cells), laying),
                                 plain_heights(cells, laying))
        for cells in (BROAD, FORTY):
            for laying in (plain_laying(Floor(cells)), lowest(Floor(cells))):
                self.assertEqual(heights(Floor(cells), laying),
                                 plain_heights(cells, laying))

    def test_the_list_in_any_order(self):
        cells, layings = MANY[1]
        told = heights(Floor(cells), layings[3])
        for order in permutations(layings[3]):
            self.assertEqual(heights(Floor(cells), list(order)), told)


class Turned(unittest.TestCase):

    def test_the_square(self):
        floor = Floor(SQUARE)
        self.assertEqual(turned(floor, ALONG, (1, 1)), UP)
        self.assertEqual(turned(floor, UP, (1, 1)), ALONG)
        self.assertEqual(turned(floor, UP[::-1], (1, 1)), ALONG)

    def test_at_each_corner_and_beyond(self):
        for cells in [*SMALL, box(4, 4)]:
            floor = Floor(cells)
            for laying in every_two_laying(cells)[:12]:
                for x in range(-1, 13):
                    for y in range(-1, 13):
                        self.look_over(floor, laying, (x, y))

    def look_over(self, floor, laying, corner):
        expected = plainly_turned(laying, corner)
        if expected is None:
            with self.assertRaises(FloorError) as caught:
                turned(floor, laying, corner)
            self.assertIs(type(caught.exception), NoTurn)
            return
        told = turned(floor, laying, corner)
        self.assertIs(type(told), list)
        self.assertEqual(told, expected)
        self.assertEqual(told, sorted(told))
        self.assertEqual(turned(floor, told, corner), laying)
        before = heights(floor, laying)
        behind = heights(floor, told)
        self.assertEqual(abs(behind.pop(corner) - before.pop(corner)), 4)
        self.assertEqual(before, behind)

    def test_rising_whatever_the_order(self):
        for cells, layings in MANY[1:3]:
            floor = Floor(cells)
            for laying in layings:
                for corner in corners_of(cells):
                    if plainly_turned(laying, corner):
                        self.assertEqual(turned(floor, laying[::-1], corner),
                                         plainly_turned(laying, corner))

    def test_forty_cells(self):
        for cells in (BROAD, FORTY):
            floor = Floor(cells)
            laying = plain_laying(floor)
            for corner in corners_of(cells):
                self.look_over(floor, sorted(laying), corner)

    def test_no_turn_beyond_the_floor(self):
        for corner in ((0, 0), (1, 0), (2, 2), (3, 1), (-1, -1), (50, 50),
                       (1, -1), (-1, 1)):
            for laying in (ALONG, UP):
                with self.assertRaises(NoTurn):
                    turned(Floor(SQUARE), laying, corner)

    def test_no_turn_of_pieces_end_to_end(self):
        # Around (2, 1) and (1, 2) are pieces, but not side by side.
        floor = Floor(box(4, 2))
        laying = [(0, 0, "e"), (0, 1, "e"), (2, 0, "e"), (2, 1, "e")]
        for corner in ((2, 1), (2, 0), (0, 1), (4, 1)):
            with self.assertRaises(NoTurn):
                turned(floor, laying, corner)
        self.assertEqual(turned(floor, laying, (3, 1)),
                         [(0, 0, "e"), (0, 1, "e"), (2, 0, "n"), (3, 0, "n")])
        # Moved along by one cell they are side by side, but not all the way.
        with self.assertRaises(NoTurn):
            turned(Floor([(0, 0), (1, 0), (1, 1), (2, 1)]),
                   [(0, 0, "e"), (1, 1, "e")], (1, 1))


class Turns(unittest.TestCase):

    def follow(self, floor, one, other):
        """The corners told, having done each turn."""
        told = turns(floor, one, other)
        self.assertIs(type(told), list)
        self.assertEqual({type(corner) for corner in told} - {tuple}, set())
        here = sorted(one)
        for corner in told:
            here = turned(floor, here, corner)
        self.assertEqual(here, sorted(other))
        return told

    def parted(self, cells, one, other):
        """The differences of the heights, parted by 4."""
        here, there = plain_heights(cells, one), plain_heights(cells, other)
        apart = sum(abs(here[corner] - there[corner]) for corner in here)
        self.assertEqual(apart % 4, 0)
        return apart // 4

    def test_the_square(self):
        floor = Floor(SQUARE)
        self.assertEqual(turns(floor, ALONG, UP), [(1, 1)])
        self.assertEqual(turns(floor, UP, ALONG), [(1, 1)])
        self.assertEqual(turns(floor, UP, UP), [])
        self.assertEqual(turns(floor, UP, UP[::-1]), [])

    def test_between_any_two(self):
        for cells in SMALL:
            floor = Floor(cells)
            layings = every_two_laying(cells)
            for one in layings:
                for other in layings:
                    told = self.follow(floor, one, other)
                    self.assertEqual(len(told), self.parted(cells, one, other))

    def test_on_greater_floors(self):
        for cells, layings in MANY[1:]:
            floor = Floor(cells)
            for one in layings[::5] + [highest(floor)[1], lowest(floor)]:
                for other in layings:
                    told = self.follow(floor, one, other)
                    self.assertEqual(len(told), self.parted(cells, one, other))
                    back = self.follow(floor, other, one)
                    self.assertEqual(len(back), len(told))

    def test_as_few_as_can_be(self):
        # How far each laying is, by trying all turns, round by round.
        for cells, layings in MANY[:4]:
            floor = Floor(cells)
            for one in layings[::4]:
                far = {tuple(one): 0}
                waiting = [one]
                for laying in waiting:
                    for corner in corners_of(cells):
                        there = plainly_turned(laying, corner)
                        if there and tuple(there) not in far:
                            far[tuple(there)] = far[tuple(laying)] + 1
                            waiting.append(there)
                self.assertEqual(len(far), len(layings))
                for other in layings:
                    self.assertEqual(len(turns(floor, one, other)),
                                     far[tuple(other)])

    def test_none_to_itself(self):
        for cells, layings in MANY:
            for laying in layings:
                self.assertEqual(turns(Floor(cells), laying, laying), [])
                self.assertEqual(turns(Floor(cells), laying[::-1], laying), [])

    def test_up_and_down_both(self):
        # One corner is to be lowered and another one raised.
        cells = box(4, 2)
        one = [(0, 0, "e"), (0, 1, "e"), (2, 0, "n"), (3, 0, "n")]
        other = [(0, 0, "n"), (1, 0, "n"), (2, 0, "e"), (2, 1, "e")]
        told = self.follow(Floor(cells), one, other)
        self.assertEqual(sorted(told), [(1, 1), (3, 1)])

    def test_forty_cells(self):
        chance = random.Random(8)
        for cells in (BROAD, FORTY, box(5, 8, 3, 1)):
            floor = Floor(cells)
            inner = sorted(corners_of(cells))
            strayed = plain_laying(floor)
            for _ in range(200):
                corner = chance.choice(inner)
                strayed = plainly_turned(strayed, corner) or strayed
            found = [highest(floor)[1], lowest(floor), plain_laying(floor),
                     strayed]
            for one in found:
                for other in found:
                    told = self.follow(floor, one, other)
                    self.assertEqual(len(told), self.parted(cells, one, other))


class Refused(unittest.TestCase):

    def refuse(self, function, *handed):
        with self.assertRaises(FloorError) as caught:
            function(*handed)
        self.assertIs(type(caught.exception), NoTurn)

    def test_what_is_no_laying(self):
        floor = Floor(box(4, 2))
        for bad in BAD:
            self.refuse(heights, floor, bad)
            self.refuse(turned, floor, bad, (2, 1))
            self.refuse(turned, floor, bad, (50, 50))
            self.refuse(turns, floor, bad, GOOD)
            self.refuse(turns, floor, GOOD, bad)
            self.refuse(turns, floor, bad, bad)

    def test_the_good_one_is_taken(self):
        floor = Floor(box(4, 2))
        self.assertEqual(len(heights(floor, GOOD)), 15)
        self.assertEqual(turned(floor, GOOD, (2, 1)),
                         [(0, 0, "n"), (1, 0, "n"), (2, 0, "n"), (3, 0, "n")])
        self.assertEqual(turns(floor, GOOD, GOOD), [])

    def test_on_a_floor_that_has_no_laying(self):
        for cells in (ONE, HOOK, box(3, 3)):
            for laying in ([], ALONG, [(0, 0, "e")], [(1, 1, "e")]):
                self.refuse(heights, Floor(cells), laying)
                self.refuse(turned, Floor(cells), laying, (1, 1))
                self.refuse(turns, Floor(cells), laying, laying)

    def test_a_laying_of_another_floor(self):
        away = Floor(moved(SQUARE, 1, 0))
        for laying in (ALONG, UP):
            self.refuse(heights, away, laying)
            self.refuse(turned, away, laying, (2, 1))
            self.refuse(turns, away, laying, laying)


class Handed(unittest.TestCase):

    def test_everything_stays_as_it_was(self):
        floor = Floor(box(4, 2))
        one = [(3, 0, "n"), (1, 1, "e"), (0, 0, "n"), (1, 0, "e")]
        other = [(2, 1, "e"), (0, 1, "e"), (0, 0, "e"), (2, 0, "e")]
        before = (floor.cells(), floor.rim(), list(one), list(other))
        heights(floor, one)
        turned(floor, one, (2, 1))
        turns(floor, one, other)
        for function in (lambda: turned(floor, one, (9, 9)),
                         lambda: heights(floor, one[1:]),
                         lambda: turns(floor, one, other[1:])):
            with self.assertRaises(NoTurn):
                function()
        self.assertEqual(before, (floor.cells(), floor.rim(), one, other))

    def test_told_lists_may_be_changed(self):
        floor = Floor(box(4, 2))
        one, other = lowest(floor), highest(floor)[1]
        asks = [lambda: heights(floor, one), lambda: turns(floor, one, other),
                lambda: turned(floor, one, turns(floor, one, other)[0])]
        for ask in asks:
            before = repr(ask())
            told = ask()
            told.clear()
            self.assertEqual(repr(ask()), before)

    def test_a_list_that_is_changed_behind_the_asking(self):
        floor = Floor(SQUARE)
        laying = list(ALONG)
        told = [heights(floor, laying), turned(floor, laying, (1, 1)),
                turns(floor, laying, UP)]
        before = repr(told)
        laying.clear()
        self.assertEqual(repr(told), before)
        self.assertEqual(repr([heights(floor, ALONG),
                               turned(floor, ALONG, (1, 1)),
                               turns(floor, ALONG, UP)]), before)


if __name__ == "__main__":
    unittest.main()
