"""Point 7: layings, the first one, and how many there are."""

import unittest
from itertools import permutations

from rimword.floors import Floor
from rimword.laying import counted, is_laid, laid
from rimword.pieces import Pieces, dominoes
from samples import (ALIKE, BARS, BENDS, CUP, DOMINOES, MIXED, ONE, SETS,
                     SQUARE, STAIR, box, every_laying, in_steps, small_floors)


def numbers(laying):
    return [piece for piece, _, _ in laying]


TRIED = [(cells, pieces, every_laying(cells, pieces)) for pieces in SETS
         for cells in small_floors(3, 3) + [box(4, 3), box(2, 5, 3, 1)]]


class Laid(unittest.TestCase):

    def test_the_first_of_several(self):
        floor = Floor(SQUARE)
        self.assertEqual(laid(floor, Pieces(DOMINOES)),
                         [(0, 0, 0), (0, 0, 1)])
        self.assertEqual(laid(floor, Pieces(DOMINOES[::-1])),
                         [(0, 0, 0), (0, 1, 0)])
        self.assertEqual(laid(floor, Pieces([*DOMINOES, ONE])),
                         [(0, 0, 0), (0, 0, 1)])
        self.assertEqual(laid(floor, Pieces([ONE, *DOMINOES])),
                         [(0, 0, 0), (0, 1, 0), (0, 0, 1), (0, 1, 1)])

    def test_rows_in_the_order_of_the_steps(self):
        # The cell (1, 0) is covered ahead of (0, 1): by y, then by x.
        self.assertEqual(laid(Floor(box(3, 2)), Pieces(DOMINOES)),
                         [(0, 0, 0), (1, 2, 0), (0, 0, 1)])
        self.assertEqual(laid(Floor(box(3, 2, 4, 7)), Pieces(DOMINOES)),
                         [(0, 4, 7), (1, 6, 7), (0, 4, 8)])

    def test_a_piece_that_is_moved_to_the_left_of_its_first_cell(self):
        floor = Floor(STAIR)
        self.assertEqual(laid(floor, Pieces([STAIR])), [(0, 0, 0)])
        self.assertEqual(laid(Floor([(8, 3), (7, 4), (8, 4)]),
                              Pieces([BENDS[3]])), [(0, 7, 3)])
        self.assertEqual(laid(Floor(box(2, 3)), Pieces(BENDS)),
                         [(0, 0, 0), (3, 0, 1)])

    def test_a_least_number_that_leads_nowhere_is_not_taken(self):
        pieces = Pieces([*DOMINOES, BARS[0]])
        self.assertEqual(laid(Floor(box(3, 1)), pieces), [(2, 0, 0)])
        # Along x in the corner, two cells would be left apart.
        self.assertEqual(laid(Floor([(0, 0), (1, 0), (0, 1), (2, 0)]),
                              Pieces(DOMINOES)),
                         [(1, 0, 0), (0, 1, 0)])

    def test_none_where_there_is_no_laying(self):
        for cells, pieces in [(ONE, DOMINOES), (box(3, 3), DOMINOES),
                              (CUP, DOMINOES), (SQUARE, BARS), (SQUARE, BENDS),
                              (ONE, [SQUARE]),
                              (box(4, 4)[1:-1], DOMINOES)]:
            self.assertIsNone(laid(Floor(cells), Pieces(pieces)))
            self.assertEqual(counted(Floor(cells), Pieces(pieces)), 0)

    def test_of_pieces_that_are_alike_the_first(self):
        self.assertEqual(laid(Floor([(0, 0), (1, 0)]), Pieces(ALIKE)),
                         [(0, 0, 0), (0, 1, 0)])
        self.assertEqual(laid(Floor(ONE), Pieces([SQUARE, ONE, [(5, 5)]])),
                         [(1, 0, 0)])

    def test_against_a_trying_of_all_ways(self):
        for cells, pieces, tried in TRIED:
            ordered = [in_steps(laying, pieces) for laying in tried]
            self.assertEqual(laid(Floor(cells), Pieces(pieces)),
                             min(ordered, key=numbers, default=None))

    def test_the_largest_floors(self):
        for cells in (box(4, 10), box(10, 4), box(8, 5, 4, 7), box(5, 8, 7, 4),
                      box(6, 6, 6, 6), box(12, 3), box(3, 12)):
            told = laid(Floor(cells), dominoes())
            self.assertTrue(is_laid(Floor(cells), dominoes(), told))
            self.assertEqual(told, in_steps(told, DOMINOES))
        self.assertEqual(laid(Floor(box(1, 12)), dominoes()),
                         [(1, 0, y) for y in range(0, 12, 2)])
        self.assertEqual(laid(Floor(box(12, 1, 0, 11)), dominoes()),
                         [(0, x, 11) for x in range(0, 12, 2)])
        away = [cell for cell in box(6, 6) if cell not in ((0, 0), (5, 5))]
        self.assertIsNone(laid(Floor(away), dominoes()))

    def test_told_anew_each_time(self):
        floor, pieces = Floor(box(3, 2)), Pieces(DOMINOES)
        told = laid(floor, pieces)
        told.append((0, 9, 9))
        told[0] = (1, 1, 1)
        self.assertEqual(laid(floor, pieces),
                         [(0, 0, 0), (1, 2, 0), (0, 0, 1)])
        self.assertIsNot(laid(floor, pieces), laid(floor, pieces))

    def test_floors_one_after_another_and_again(self):
        asked = [(Floor(cells), Pieces(pieces))
                 for pieces in SETS for cells in small_floors(3, 2)]
        once = [(laid(*both), counted(*both)) for both in asked]
        again = [(laid(*both), counted(*both)) for both in asked[::-1]]
        self.assertEqual(once, again[::-1])

    def test_kinds_of_values(self):
        told = laid(Floor(SQUARE), Pieces(MIXED))
        self.assertIs(type(told), list)
        self.assertEqual({type(row) for row in told}, {tuple})
        self.assertIs(type(counted(Floor(SQUARE), Pieces(MIXED))), int)
        self.assertIs(type(counted(Floor(ONE), Pieces(DOMINOES))), int)


class Counted(unittest.TestCase):

    def test_small_ones(self):
        for cells, pieces, many in [
                (SQUARE, DOMINOES, 2), (box(3, 2), DOMINOES, 3),
                (box(4, 4), DOMINOES, 36), (box(3, 3), BARS, 2),
                (box(2, 3), BENDS, 2), (ONE, MIXED, 1), (CUP, [CUP], 1),
                (ONE, DOMINOES, 0), (SQUARE, [SQUARE], 1)]:
            self.assertEqual(counted(Floor(cells), Pieces(pieces)), many)

    def test_pieces_that_are_alike_count_each(self):
        self.assertEqual(counted(Floor(ONE), Pieces(ALIKE)), 2)
        self.assertEqual(counted(Floor([(0, 0), (1, 0)]), Pieces(ALIKE)), 5)

    def test_against_a_trying_of_all_ways(self):
        for cells, pieces, tried in TRIED:
            self.assertEqual(counted(Floor(cells), Pieces(pieces)),
                             len(tried))

    def test_the_largest_floors(self):
        for cells, many in [(box(4, 10), 18061), (box(10, 4), 18061),
                            (box(5, 8), 14824), (box(8, 5, 4, 7), 14824),
                            (box(6, 6), 6728), (box(12, 3), 2131),
                            (box(3, 12), 2131), (box(3, 3), 0)]:
            self.assertEqual(counted(Floor(cells), dominoes()), many)

    def test_twenty_cells(self):
        self.assertEqual(counted(Floor(box(4, 5)), dominoes()), 95)
        self.assertEqual(counted(Floor(box(4, 5)), Pieces([ONE, *DOMINOES])),
                         120465)


class IsLaid(unittest.TestCase):

    def ask(self, laying, cells=tuple(box(3, 2)), pieces=tuple(DOMINOES)):
        told = is_laid(Floor(list(cells)), Pieces(list(pieces)), laying)
        self.assertIs(type(told), bool)
        return told

    def test_in_any_order(self):
        for order in permutations([(0, 0, 0), (1, 2, 0), (0, 0, 1)]):
            self.assertTrue(self.ask(list(order)))

    def test_each_laying_of_small_floors(self):
        for pieces in SETS:
            for cells in small_floors(3, 2):
                for laying in every_laying(cells, pieces):
                    self.assertTrue(self.ask(laying, cells, pieces))
                    self.assertTrue(self.ask(laying[::-1], cells, pieces))
                    self.assertFalse(self.ask(laying[1:], cells, pieces))
                    self.assertFalse(self.ask([*laying, laying[0]],
                                              cells, pieces))

    def test_the_empty_list(self):
        self.assertFalse(self.ask([]))
        self.assertFalse(self.ask([], ONE, [ONE]))

    def test_a_row_left_out_or_twice(self):
        laying = [(0, 0, 0), (1, 2, 0), (0, 0, 1)]
        for at in range(3):
            self.assertFalse(self.ask(laying[:at] + laying[at + 1:]))
            self.assertFalse(self.ask(laying + [laying[at]]))
            self.assertFalse(self.ask([laying[at]] * 3))

    def test_another_row(self):
        laying = [(0, 0, 0), (1, 2, 0)]
        for x in range(-2, 5):
            for y in range(-2, 4):
                for piece in (0, 1):
                    row = (piece, x, y)
                    self.assertIs(self.ask([*laying, row]), row == (0, 0, 1))
                    self.assertFalse(self.ask([*laying, (0, 0, 1), row]))

    def test_pieces_that_lie_over_one_another(self):
        self.assertFalse(self.ask([(0, 0, 0), (0, 1, 0), (0, 0, 1),
                                   (0, 1, 1)]))
        self.assertFalse(self.ask([(0, 0, 0), (0, 0, 0), (0, 0, 1)]))

    def test_pieces_beyond_the_floor(self):
        self.assertFalse(self.ask([(0, 0, 0), (0, 2, 0), (0, 0, 1),
                                   (0, 2, 1)]))
        self.assertFalse(self.ask([(0, 0, 0), (1, 2, 0), (0, 0, 1),
                                   (0, 9, 9)]))
        self.assertFalse(self.ask([(0, 0, 0), (1, 2, 0), (0, 0, 1),
                                   (0, -5, -5)]))
        self.assertFalse(self.ask([(0, 1000, -1000)]))

    def test_numbers_that_are_no_piece(self):
        laying = [(0, 0, 0), (1, 2, 0), (0, 0, 1)]
        for number in (-3, -2, -1, 2, 3, 6, 100):
            for at in range(3):
                other = list(laying)
                other[at] = (number, other[at][1], other[at][2])
                self.assertFalse(self.ask(other))
            self.assertFalse(self.ask([*laying, (number, 0, 0)]))
            self.assertFalse(self.ask([(number, 0, 0)], ONE, [ONE, SQUARE]))

    def test_no_number_is_counted_from_the_end(self):
        self.assertTrue(self.ask([(1, 0, 0)], ONE, [SQUARE, ONE]))
        self.assertFalse(self.ask([(-1, 0, 0)], ONE, [SQUARE, ONE]))
        self.assertFalse(self.ask([(-2, 0, 0)], ONE, [ONE, SQUARE]))

    def test_the_piece_is_moved_from_its_least_x_and_y(self):
        self.assertTrue(self.ask([(0, 0, 0)], STAIR, [STAIR]))
        self.assertFalse(self.ask([(0, 2, 0)], STAIR, [STAIR]))
        away = [(x + 9, y + 5) for x, y in STAIR]
        self.assertTrue(self.ask([(0, 9, 5)], away, [STAIR]))
        self.assertTrue(self.ask([(0, 9, 5)], away, [away]))
        self.assertFalse(self.ask([(0, 0, 0)], away, [away]))

    def test_another_piece_of_as_many_cells(self):
        self.assertFalse(self.ask([(0, 0, 0)], [(0, 0), (0, 1)]))
        self.assertTrue(self.ask([(1, 0, 0)], [(0, 0), (0, 1)]))

    def test_forty_cells_of_dominoes(self):
        laying = [(0, x, y) for x in range(0, 10, 2) for y in range(4)]
        self.assertTrue(self.ask(laying, box(10, 4)))
        self.assertFalse(self.ask(laying[1:], box(10, 4)))
        self.assertFalse(self.ask([*laying[1:], (1, 0, 0)], box(10, 4)))

    def test_any_of_several(self):
        self.assertTrue(self.ask([(0, 0, 0), (0, 0, 1)], SQUARE))
        self.assertTrue(self.ask([(1, 0, 0), (1, 1, 0)], SQUARE))
        self.assertTrue(self.ask([(2, 0, 0), (0, 1, 0)],
                                 [(0, 0), (1, 0)], ALIKE))


class Handed(unittest.TestCase):

    def test_everything_stays_as_it_was(self):
        floor, pieces = Floor(box(3, 2)), Pieces(MIXED)
        laying = [(1, 2, 0), (3, 0, 0), (7, 7, 7)]
        before = (floor.cells(), floor.rim(), pieces.told(), pieces.rims())
        laid(floor, pieces)
        counted(floor, pieces)
        is_laid(floor, pieces, laying)
        is_laid(floor, pieces, laying[:2])
        self.assertEqual(laying, [(1, 2, 0), (3, 0, 0), (7, 7, 7)])
        self.assertEqual(before, (floor.cells(), floor.rim(), pieces.told(),
                                  pieces.rims()))


if __name__ == "__main__":
    unittest.main()
