"""Point 8: pairs of orders, where words lead the points, and what shows that
a floor can't be laid."""

import unittest
from itertools import permutations, product

from rimword.errors import BadPair, FloorError
from rimword.floors import Floor
from rimword.groups import image, makes_nothing, search, shows, steps
from rimword.laying import counted
from rimword.pieces import Pieces
from samples import (BARS, BENDS, CUP, DOMINOES, MIXED, ONE, SETS, SQUARE, box,
                     led, small_floors)

SINGLE = ((0,), (0,))
TWO = ((1, 0), (0, 1))
THREE = ((1, 2, 0), (1, 0, 2))
SIX = ((1, 2, 3, 4, 5, 0), (1, 0, 3, 5, 2, 4))
# By this pair the rims of both dominoes make nothing, that of a cell doesn't.
PLAIN = ((0, 2, 1), (1, 0, 2))

BAD = [
    (), ((0, 1),), ((0, 1), (1, 0), (0, 1)), ((0,), (0,), (0,), (0,)),
    ((0, 1), (0,)), ((0,), (0, 1)), ((0, 1, 2), (1, 0)), ((1, 0), (0, 1, 2)),
    ((), ()), ((), (0,)), ((0,), ()),
    (tuple(range(7)), tuple(range(7))),
    (tuple(range(6)), tuple(range(7))), (tuple(range(7)), tuple(range(6))),
    ((0, 0), (0, 1)), ((0, 1), (1, 1)), ((0, 1, 1), (0, 1, 2)),
    ((0, 2), (0, 1)), ((0, 1), (2, 0)), ((1,), (0,)), ((0,), (1,)),
    ((1, 2), (1, 2)), ((0, -1), (0, 1)), ((0, 1), (-1, 0)), ((-1,), (0,)),
    ((0, 1, 2, 3, 4, 6), tuple(range(6))),
]


def pairs(many):
    """All pairs of orders of so many points, the least tuple first."""
    orders = sorted(permutations(range(many)))
    return sorted(product(orders, orders))


def brings_back(word, pair):
    return all(led(point, word, pair) == point
               for point in range(len(pair[0])))


def bring_pieces_back(pieces, pair):
    return all(brings_back(Floor(cells).rim(), pair) for cells in pieces)


class Steps(unittest.TestCase):

    def test_each_of_the_four_letters(self):
        self.assertEqual(steps("e", THREE), [(0, 1, 2), (1, 2, 0)])
        self.assertEqual(steps("n", THREE), [(0, 1, 2), (1, 0, 2)])
        self.assertEqual(steps("w", THREE), [(0, 1, 2), (2, 0, 1)])
        self.assertEqual(steps("s", THREE), [(0, 1, 2), (1, 0, 2)])
        self.assertEqual(steps("s", THREE[::-1]), [(0, 1, 2), (2, 0, 1)])

    def test_one_step_after_the_other(self):
        self.assertEqual(steps("en", THREE),
                         [(0, 1, 2), (1, 2, 0), (0, 2, 1)])
        self.assertEqual(steps("ne", THREE),
                         [(0, 1, 2), (1, 0, 2), (2, 1, 0)])
        self.assertEqual(steps("eew", THREE),
                         [(0, 1, 2), (1, 2, 0), (2, 0, 1), (1, 2, 0)])

    def test_the_empty_word(self):
        for pair in (SINGLE, TWO, THREE, SIX):
            self.assertEqual(steps("", pair), [tuple(range(len(pair[0])))])
            self.assertEqual(image("", pair), tuple(range(len(pair[0]))))

    def test_against_following_each_point(self):
        words = ["".join(word) for long in range(5)
                 for word in product("enws", repeat=long)]
        for pair in (SINGLE, TWO, THREE, PLAIN, SIX):
            for word in words:
                followed = [tuple(led(point, word[:at], pair)
                                  for point in range(len(pair[0])))
                            for at in range(len(word) + 1)]
                self.assertEqual(steps(word, pair), followed)
                self.assertEqual(image(word, pair), followed[-1])

    def test_all_pairs_of_three_points(self):
        for pair in pairs(1) + pairs(2) + pairs(3):
            for word in ("enws", "wsen", "eennwsws", "nnewwsse"):
                self.assertEqual(image(word, pair),
                                 tuple(led(point, word, pair)
                                       for point in range(len(pair[0]))))

    def test_w_and_s_lead_back(self):
        for pair in (SINGLE, TWO, THREE, PLAIN, SIX):
            for word in ("ew", "we", "ns", "sn", "enesnwsw", "wswnsene"):
                self.assertEqual(image(word, pair),
                                 tuple(range(len(pair[0]))))

    def test_sixty_steps(self):
        word = "eennwsenwwss" * 5
        told = steps(word, SIX)
        self.assertEqual(len(told), 61)
        self.assertEqual(told[-1], tuple(led(point, word, SIX)
                                         for point in range(6)))
        self.assertEqual(image("e" * 60, THREE), (0, 1, 2))
        self.assertEqual(image("e" * 59, SIX), (5, 0, 1, 2, 3, 4))

    def test_one_point_stays(self):
        self.assertEqual(steps("enw", SINGLE), [(0,)] * 4)

    def test_told_anew_each_time(self):
        told = steps("en", THREE)
        told[0] = ()
        told.pop()
        self.assertEqual(steps("en", THREE),
                         [(0, 1, 2), (1, 2, 0), (0, 2, 1)])

    def test_kinds_of_values(self):
        self.assertIs(type(steps("en", THREE)), list)
        self.assertEqual({type(row) for row in steps("en", THREE)}, {tuple})
        self.assertIs(type(image("en", THREE)), tuple)


class Refusals(unittest.TestCase):

    def refused(self, function, *handed):
        with self.assertRaises(FloorError) as caught:
            function(*handed)
        self.assertIs(type(caught.exception), BadPair)

    def test_bad_pairs(self):
        floor, pieces = Floor(SQUARE), Pieces(DOMINOES)
        for pair in BAD:
            for word in ("", "e", "n", "wwss"):
                self.refused(steps, word, pair)
                self.refused(image, word, pair)
            self.refused(makes_nothing, pieces, pair)
            self.refused(shows, floor, pieces, pair)
            self.refused(shows, Floor(ONE), Pieces([ONE]), pair)

    def test_orders_of_one_to_six_points(self):
        for many in range(1, 7):
            pair = tuple(range(many)), tuple(range(many))[::-1]
            self.assertEqual(image("e", pair), pair[0])
            self.assertEqual(image("n", pair), pair[1])
            self.assertIs(makes_nothing(Pieces(DOMINOES), pair), True)
            self.assertIs(shows(Floor(ONE), Pieces(DOMINOES), pair), False)

    def test_bad_numbers_of_points(self):
        floor, pieces = Floor(box(3, 3)), Pieces(DOMINOES)
        for most in (-100, -2, -1, 0, 5, 6, 7, 100):
            self.refused(search, floor, pieces, most)
            self.refused(search, Floor(SQUARE), pieces, most)

    def test_good_numbers_of_points(self):
        floor, pieces = Floor(SQUARE), Pieces(DOMINOES)
        for most in (1, 2, 3, 4):
            self.assertIsNone(search(floor, pieces, most))


class Shows(unittest.TestCase):

    def test_makes_nothing(self):
        self.assertIs(makes_nothing(Pieces(DOMINOES), PLAIN), True)
        self.assertIs(makes_nothing(Pieces(DOMINOES), THREE), False)
        self.assertIs(makes_nothing(Pieces([ONE]), PLAIN), False)
        self.assertIs(makes_nothing(Pieces([SQUARE]), PLAIN), True)
        self.assertIs(makes_nothing(Pieces(BENDS), SINGLE), True)

    def test_each_piece_is_asked(self):
        for bad in ([ONE, *DOMINOES], [DOMINOES[0], ONE, DOMINOES[1]],
                    [*DOMINOES, ONE]):
            self.assertIs(makes_nothing(Pieces(bad), PLAIN), False)
            self.assertIs(shows(Floor(ONE), Pieces(bad), PLAIN), False)

    def test_shows(self):
        pieces = Pieces(DOMINOES)
        self.assertIs(shows(Floor(ONE), pieces, PLAIN), True)
        self.assertIs(shows(Floor(box(3, 3)), pieces, PLAIN), True)
        self.assertIs(shows(Floor(box(4, 5)[1:-2]), pieces, PLAIN), True)
        self.assertIs(shows(Floor(SQUARE), pieces, PLAIN), False)
        self.assertIs(shows(Floor(box(4, 5)), pieces, PLAIN), False)

    def test_nothing_is_shown_where_the_pieces_make_something(self):
        self.assertFalse(brings_back("enws", THREE))
        self.assertFalse(makes_nothing(Pieces(DOMINOES), THREE))
        self.assertIs(shows(Floor(ONE), Pieces(DOMINOES), THREE), False)

    def test_against_following_each_point(self):
        floors = small_floors(3, 2) + [CUP, box(3, 3), box(4, 4)[1:-1]]
        for pieces in SETS:
            made = Pieces(pieces)
            for pair in pairs(3) + [SIX, TWO, SINGLE]:
                nothing = bring_pieces_back(pieces, pair)
                self.assertIs(makes_nothing(made, pair), nothing)
                for cells in floors:
                    floor = Floor(cells)
                    self.assertIs(
                        shows(floor, made, pair),
                        nothing and not brings_back(floor.rim(), pair))

    def test_a_pair_of_six_points(self):
        wide = tuple([*PLAIN[0], 3, 4, 5]), tuple([*PLAIN[1], 3, 4, 5])
        self.assertIs(makes_nothing(Pieces(DOMINOES), wide), True)
        self.assertIs(shows(Floor(box(3, 3)), Pieces(DOMINOES), wide), True)
        self.assertIs(shows(Floor(SQUARE), Pieces(DOMINOES), wide), False)

    def test_no_floor_that_has_a_laying_is_shown(self):
        for pieces in SETS:
            made = Pieces(pieces)
            good = [pair for pair in pairs(3) + pairs(4)
                    if makes_nothing(made, pair)]
            for cells in small_floors(3, 3)[::3]:
                floor = Floor(cells)
                if counted(floor, made) == 0:
                    continue
                for pair in good:
                    self.assertIs(shows(floor, made, pair), False)


class Search(unittest.TestCase):

    def test_told_ones(self):
        for cells, pieces, most, told in [
                (ONE, DOMINOES, 3, PLAIN),
                (ONE, DOMINOES, 4, PLAIN),
                (box(4, 4)[1:-1], DOMINOES, 4, PLAIN),
                (box(4, 4), BARS, 4, ((0, 2, 3, 1), (1, 2, 0, 3))),
                (box(4, 4), BARS, 3, None),
                (box(3, 3)[1:], [BARS[0]], 4, ((1, 2, 0), (0, 2, 1))),
                (box(3, 3)[1:], [SQUARE], 4, ((0, 2, 1), (1, 2, 0))),
                (box(4, 4), DOMINOES, 4, None),
                (box(4, 4)[1:-1], BENDS, 4, None)]:
            self.assertEqual(search(Floor(cells), Pieces(pieces), most), told)

    def test_none_with_one_point_or_two(self):
        # Orders of two points make nothing of any way that comes back.
        for cells in small_floors(3, 2):
            for pieces in SETS:
                for most in (1, 2):
                    self.assertIsNone(search(Floor(cells), Pieces(pieces),
                                             most))

    def test_against_going_through_all_pairs(self):
        floors = small_floors(2, 3) + [CUP, box(3, 3), box(3, 3)[1:],
                                       box(4, 4)[1:-1], box(5, 1)]
        for pieces in [*SETS, [SQUARE], MIXED[2:], [BENDS[0]]]:
            made = Pieces(pieces)
            good = {most: [pair for many in range(2, most + 1)
                           for pair in pairs(many)
                           if bring_pieces_back(pieces, pair)]
                    for most in range(1, 5)}
            for cells in floors:
                floor = Floor(cells)
                for most in range(1, 5):
                    found = [pair for pair in good[most]
                             if not brings_back(floor.rim(), pair)]
                    self.assertEqual(search(floor, made, most),
                                     found[0] if found else None)

    def test_what_it_tells_shows_it(self):
        for pieces in (DOMINOES, BARS, [SQUARE]):
            made = Pieces(pieces)
            for cells in small_floors(3, 3)[::5]:
                pair = search(Floor(cells), made, 4)
                if pair is not None:
                    self.assertTrue(shows(Floor(cells), made, pair))
                    self.assertEqual(counted(Floor(cells), made), 0)

    def test_kinds_of_values(self):
        told = search(Floor(box(4, 4)), Pieces(BARS), 4)
        self.assertIs(type(told), tuple)
        self.assertEqual([type(order) for order in told], [tuple, tuple])

    def test_asked_again_the_same_is_told(self):
        for _ in range(2):
            for cells in (ONE, box(4, 4)):
                for pieces in (DOMINOES, BARS):
                    floor, made = Floor(cells), Pieces(pieces)
                    self.assertEqual(search(floor, made, 4),
                                     search(Floor(cells), Pieces(pieces), 4))

    def test_everything_stays_as_it_was(self):
        floor, pieces = Floor(box(3, 3)), Pieces(MIXED)
        before = (floor.cells(), floor.rim(), pieces.told(), pieces.rims())
        search(floor, pieces, 4)
        shows(floor, pieces, PLAIN)
        makes_nothing(pieces, PLAIN)
        self.assertEqual(before, (floor.cells(), floor.rim(), pieces.told(),
                                  pieces.rims()))


if __name__ == "__main__":
    unittest.main()
