"""Point 9: pieces put and taken away, or shares of the cells; and boxes."""

import random
import unittest
from collections import Counter
from fractions import Fraction
from math import gcd

from rimword.colours import signed
from rimword.errors import BadBox, FloorError
from rimword.floors import Floor
from rimword.laying import laid
from rimword.pieces import Pieces
from samples import (BARS, BENDS, CUP, DOMINOES, FORTY, HOOK, MIXED, ONE, SETS,
                     SQUARE, STAIR, TORN, box, exchanged, every_laying, grown,
                     moved, plainly_told, small_floors)

T = [(0, 0), (1, 0), (2, 0), (1, 1)]


def places_in(pieces, wide, high):
    """Each (piece, x, y) in the box, with its cells."""
    inside = set(box(wide, high))
    return {(piece, x, y): moved(told, x, y)
            for piece, told in enumerate(plainly_told(pieces))
            for x in range(wide) for y in range(high)
            if set(moved(told, x, y)) <= inside}


class Case(unittest.TestCase):

    def look_over_rows(self, rows, cells, pieces, wide, high):
        self.assertIs(type(rows), list)
        self.assertEqual({type(row) for row in rows}, {tuple})
        self.assertEqual({type(part) for row in rows for part in row}, {int})
        places = places_in(pieces, wide, high)
        put = [row[:3] for row in rows]
        self.assertEqual(len(set(put)), len(put))
        self.assertLessEqual(set(put), set(places))
        covered = Counter()
        for piece, x, y, often in rows:
            self.assertNotEqual(often, 0)
            for cell in places[(piece, x, y)]:
                covered[cell] += often
        for cell in box(wide, high):
            self.assertEqual(covered[cell], int(cell in cells))

    def look_over_shares(self, shares, cells, pieces, wide, high):
        self.assertIs(type(shares), list)
        self.assertEqual(len(shares), high)
        told = {}
        for y, row in enumerate(shares):
            self.assertIs(type(row), list)
            self.assertEqual(len(row), wide)
            for x, share in enumerate(row):
                self.assertIs(type(share), tuple)
                self.assertEqual([type(part) for part in share], [int, int])
                self.assertGreaterEqual(share[1], 1)
                self.assertEqual(gcd(*share), 1)
                told[(x, y)] = Fraction(*share)
        for lying in places_in(pieces, wide, high).values():
            whole = sum(told[cell] for cell in lying)
            self.assertEqual(whole.denominator, 1)
        whole = sum(told[cell] for cell in cells)
        self.assertNotEqual(whole.denominator, 1)

    def ask(self, cells, pieces, wide, high):
        """The word that is told, everything of it looked over."""
        told = signed(Floor(cells), Pieces(pieces), wide, high)
        self.assertIs(type(told), tuple)
        word, value = told
        if word == "signed":
            self.look_over_rows(value, cells, pieces, wide, high)
        else:
            self.assertEqual(word, "colours")
            self.look_over_shares(value, cells, pieces, wide, high)
        return word


class Signed(Case):

    def test_one_piece_alone(self):
        for cells in (ONE, SQUARE, STAIR, CUP, box(2, 4, 1, 1)):
            for wide, high in ((6, 6), (5, 5), (4, 6)):
                told = signed(Floor(cells), Pieces([cells]), wide, high)
                left = min(x for x, y in cells)
                low = min(y for x, y in cells)
                self.assertEqual(told, ("signed", [(0, left, low, 1)]))

    def test_floors_that_have_a_laying(self):
        for pieces in SETS:
            for cells in small_floors(3, 3):
                if every_laying(cells, pieces):
                    for wide, high in ((3, 3), (4, 3), (6, 6)):
                        self.assertEqual(self.ask(cells, pieces, wide, high),
                                         "signed")

    def test_floors_that_have_none_but_are_signed(self):
        for cells in (HOOK, TORN):
            self.assertIsNone(laid(Floor(cells), Pieces(DOMINOES)))
            for wide, high in ((4, 3), (6, 6), (12, 3), (4, 9)):
                self.assertEqual(self.ask(cells, DOMINOES, wide, high),
                                 "signed")
        # One cell is three in a row, less two.
        bars = [box(2, 1), box(3, 1)]
        self.assertIsNone(laid(Floor(ONE), Pieces(bars)))
        self.assertEqual(sorted(signed(Floor(ONE), Pieces(bars), 3, 1)[1]),
                         [(0, 1, 0, -1), (1, 0, 0, 1)])
        self.assertEqual(self.ask(ONE, bars, 3, 1), "signed")
        self.assertEqual(self.ask(ONE, bars, 2, 1), "colours")

    def test_pieces_are_taken_away_where_none_is_laid(self):
        word, rows = signed(Floor(HOOK), Pieces(DOMINOES), 4, 3)
        self.assertEqual(word, "signed")
        self.assertLess(min(often for _, _, _, often in rows), 0)
        self.assertEqual(sum(often for _, _, _, often in rows), 3)

    def test_pieces_that_are_alike(self):
        self.assertEqual(self.ask(STAIR, [ONE, ONE, [(4, 4)]], 3, 2), "signed")

    def test_a_piece_put_more_than_once(self):
        # Of two cells with one between them there is just this counting.
        pieces = [box(1, 2), box(1, 3)]
        cells = box(1, 3) + [(1, 0), (1, 2)]
        word, rows = signed(Floor(cells), Pieces(pieces), 2, 3)
        self.assertEqual((word, sorted(rows)),
                         ("signed", [(0, 1, 0, -1), (0, 1, 1, -1),
                                     (1, 0, 0, 1), (1, 1, 0, 2)]))
        self.assertEqual(self.ask(cells, pieces, 6, 6), "signed")


class Colours(Case):

    def test_more_black_cells_than_others(self):
        for wide, high in ((3, 2), (3, 3), (6, 6), (12, 3)):
            self.assertEqual(self.ask(T, DOMINOES, wide, high), "colours")
            self.assertEqual(self.ask(ONE, DOMINOES, wide, high), "colours")

    def test_a_cell_among_bends(self):
        # Three of four cells are whole by thirds alone.
        word, shares = signed(Floor(ONE), Pieces(BENDS), 2, 2)
        self.assertEqual(word, "colours")
        self.assertIn(shares, [[[(top, 3)] * 2] * 2
                               for top in (-5, -4, -2, -1, 1, 2, 4, 5)])
        self.assertEqual(self.ask(SQUARE, BENDS, 2, 2), "colours")
        self.assertEqual(self.ask(ONE, BENDS, 3, 3), "colours")

    def test_nothing_is_0_over_another_number(self):
        # The cells that no piece needs are those of 0, in lowest terms.
        _, shares = signed(Floor(ONE), Pieces([SQUARE]), 1, 1)
        self.assertGreater(shares[0][0][1], 1)
        tried = 0
        for cells in small_floors(3, 2):
            for pieces in SETS:
                word, told = signed(Floor(cells), Pieces(pieces), 4, 4)
                if word == "colours":
                    zeros = [share for row in told for share in row
                             if share[0] == 0]
                    self.assertEqual(zeros, [(0, 1)] * len(zeros))
                    tried += len(zeros)
        self.assertGreater(tried, 0)

    def test_no_piece_fits_in_the_box(self):
        for wide, high in ((1, 1), (2, 1), (1, 2), (2, 2)):
            self.assertEqual(self.ask(ONE, BARS, wide, high), "colours")
            self.assertEqual(self.ask(ONE, [CUP, box(3, 2)], wide, high),
                             "colours")
        self.assertEqual(self.ask(SQUARE, BARS, 2, 2), "colours")

    def test_some_piece_does_not_fit_in_the_box(self):
        self.assertEqual(self.ask(box(2, 1), [box(8, 1), box(2, 1)], 4, 4),
                         "signed")
        self.assertEqual(self.ask(ONE, [box(8, 1), box(2, 1)], 4, 4),
                         "colours")
        self.assertEqual(self.ask(ONE, [box(3, 1), box(2, 1)], 2, 2),
                         "colours")
        self.assertEqual(self.ask(box(1, 2), DOMINOES, 1, 4), "signed")
        self.assertEqual(self.ask(box(1, 3), DOMINOES, 1, 4), "colours")

    def test_the_shares_go_by_rows_of_y(self):
        for wide, high in ((2, 3), (3, 2), (4, 1), (1, 4), (5, 7)):
            word, shares = signed(Floor(ONE), Pieces(DOMINOES), wide, high)
            self.assertEqual(word, "colours")
            self.assertEqual([len(row) for row in shares], [wide] * high)


class Boxes(Case):

    def test_one_cell(self):
        self.assertEqual(self.ask(ONE, [ONE], 1, 1), "signed")
        self.assertEqual(self.ask(ONE, MIXED, 1, 1), "signed")
        self.assertEqual(self.ask(ONE, DOMINOES, 1, 1), "colours")

    def test_thirty_six_cells(self):
        for wide, high in ((6, 6), (9, 4), (4, 9), (12, 3), (3, 12), (18, 2),
                           (2, 18)):
            for pieces in SETS:
                for cells in (ONE, box(2, 2), box(1, 2), box(2, 1)):
                    self.ask(cells, pieces, wide, high)
        for pieces in (BARS, DOMINOES):
            self.assertEqual(self.ask(box(4, 4, 2, 2), DOMINOES, 6, 6),
                             "signed")
            self.assertEqual(self.ask(box(3, 4, 3, 2), pieces, 6, 6),
                             "signed")
        self.assertEqual(self.ask(box(4, 4, 2, 2), BARS, 6, 6), "colours")

    def test_one_row_and_one_column(self):
        for many in (3, 4, 12, 36):
            for pieces in SETS:
                for long in (1, 2, 3):
                    across = self.ask(box(long, 1), pieces, many, 1)
                    up = self.ask(box(1, long), [exchanged(cells)
                                                 for cells in pieces], 1, many)
                    self.assertEqual(across, up)
        self.assertEqual(self.ask(box(12, 1), DOMINOES, 36, 1), "signed")
        self.assertEqual(self.ask(box(11, 1), DOMINOES, 36, 1), "colours")
        self.assertEqual(self.ask(box(1, 9, 0, 3), BARS, 1, 36), "signed")
        self.assertEqual(self.ask(box(1, 10, 0, 2), BARS, 1, 36), "colours")

    def test_the_smallest_box_around_the_floor(self):
        for pieces in SETS:
            for cells in small_floors(3, 3):
                wide = max(x for x, y in cells) + 1
                high = max(y for x, y in cells) + 1
                self.ask(cells, pieces, wide, high)

    def test_in_a_greater_box_what_was_signed_is_signed(self):
        for pieces in SETS:
            for cells in small_floors(3, 2):
                words = [self.ask(cells, pieces, wide, high)
                         for wide, high in ((3, 2), (3, 3), (4, 4), (6, 6))]
                self.assertEqual(words, sorted(words))

    def test_grown_floors_and_pieces(self):
        chance = random.Random(9)
        words = Counter()
        for _ in range(60):
            pieces = [grown(chance.randint(2, 6), chance)
                      for _ in range(chance.randint(1, 4))]
            cells = grown(chance.randint(4, 16), chance)
            left = min(x for x, y in cells)
            low = min(y for x, y in cells)
            cells = moved(cells, -left, -low)
            wide = max(x for x, y in cells) + 1
            high = max(y for x, y in cells) + 1
            while (wide + 1) * (high + 1) <= 36:
                wide, high = wide + 1, high + 1
            if wide * high <= 36:
                words[self.ask(cells, pieces, wide, high)] += 1
        self.assertGreater(min(words["signed"], words["colours"]), 5)


class Refused(unittest.TestCase):

    def refuse(self, cells, wide, high, pieces=tuple(DOMINOES)):
        with self.assertRaises(FloorError) as caught:
            signed(Floor(cells), Pieces(list(pieces)), wide, high)
        self.assertIs(type(caught.exception), BadBox)

    def test_no_cells(self):
        for wide, high in ((0, 0), (0, 5), (5, 0), (0, 36), (1, 0), (0, 1)):
            self.refuse(ONE, wide, high)

    def test_numbers_below_0(self):
        for wide, high in ((-1, 5), (5, -1), (-1, -1), (-6, -6), (-36, -1),
                           (-1, 0), (0, -1), (-1000, 3), (-2, -2)):
            self.refuse(ONE, wide, high)

    def test_more_than_thirty_six_cells(self):
        for wide, high in ((37, 1), (1, 37), (6, 7), (7, 6), (12, 4), (12, 12),
                           (1000, 1000), (19, 2)):
            self.refuse(ONE, wide, high)
            self.refuse(ONE, wide, high, [ONE])

    def test_a_cell_of_the_floor_beyond(self):
        for cells, wide, high in [
                (SQUARE, 1, 1), (SQUARE, 2, 1), (SQUARE, 1, 2),
                (SQUARE, 36, 1),
                (STAIR, 2, 2), ([(11, 11)], 6, 6), ([(6, 0)], 6, 6),
                ([(0, 6)], 6, 6), ([(2, 3)], 4, 3), ([(3, 2)], 3, 4),
                (FORTY, 6, 6), (FORTY, 9, 4), (box(12, 1), 11, 3)]:
            self.refuse(cells, wide, high)
            self.refuse(cells, wide, high, [ONE])

    def test_the_edges_that_are_good(self):
        for cells, wide, high in [([(5, 5)], 6, 6), ([(11, 2)], 12, 3),
                                  ([(2, 11)], 3, 12), (ONE, 1, 1),
                                  (ONE, 36, 1), (ONE, 1, 36), (ONE, 7, 5)]:
            self.assertEqual(
                signed(Floor(cells), Pieces([ONE]), wide, high),
                ("signed", [(0, *cells[0], 1)]))


class Handed(unittest.TestCase):

    def test_everything_stays_as_it_was(self):
        floor, pieces = Floor(HOOK), Pieces(MIXED)
        before = (floor.cells(), floor.rim(), pieces.told(), pieces.rims())
        signed(floor, pieces, 6, 6)
        signed(floor, pieces, 4, 3)
        self.assertEqual(before, (floor.cells(), floor.rim(), pieces.told(),
                                  pieces.rims()))

    def test_told_lists_may_be_changed(self):
        for cells in (HOOK, T):
            floor, pieces = Floor(cells), Pieces(DOMINOES)
            before = repr(signed(floor, pieces, 5, 4))
            _, told = signed(floor, pieces, 5, 4)
            if isinstance(told[0], list):
                told[0][0] = (9, 9)
                told[1].clear()
            told[2] = "other"
            told.append(None)
            self.assertEqual(repr(signed(floor, pieces, 5, 4)), before)

    def test_no_list_is_told_twice(self):
        _, told = signed(Floor(ONE), Pieces(BENDS), 3, 3)
        self.assertEqual(len({id(row) for row in told}), 3)

    def test_in_another_order_of_asking(self):
        asked = [(Floor(cells), Pieces(pieces))
                 for pieces in SETS for cells in small_floors(3, 2)]
        once = [signed(*both, 4, 4) for both in asked]
        again = [signed(*both, 4, 4) for both in asked[::-1]]
        self.assertEqual(repr(once), repr(again[::-1]))


if __name__ == "__main__":
    unittest.main()
