"""Point 6: what pieces are, their refusals, the pieces moved, their rims;
and of point 10 the two pieces of two cells."""

import unittest

from rimword.errors import BadPieces, FloorError
from rimword.floors import Floor
from rimword.pieces import Pieces, dominoes
from samples import (BENDS, BENT, CUP, DOMINOES, FORTY, MIXED, ONE, RING, SETS,
                     SQUARE, STAIR, has_one_rim, plainly_told, small_floors,
                     subsets)

EIGHT = [(x, y) for x in range(4) for y in range(2)]
NINE = [(x, y) for x in range(3) for y in range(3)]


def refusal(pieces):
    """The number and the word of the refusal, or None for pieces."""
    try:
        Pieces(pieces)
    except FloorError as refused:
        assert type(refused) is BadPieces, refused
        return refused.at, refused.why
    return None


class Told(unittest.TestCase):

    def test_moved_and_by_rows(self):
        self.assertEqual(Pieces(MIXED).told(), [
            [(0, 0)],
            [(0, 0), (0, 1)],
            [(2, 0), (0, 1), (1, 1), (2, 1)],
            [(0, 0), (1, 0), (0, 1), (1, 1)]])

    def test_cells_go_by_y_ahead_of_x(self):
        self.assertEqual(Pieces([STAIR]).told(),
                         [[(2, 0), (0, 1), (1, 1), (2, 1)]])
        self.assertEqual(Pieces([CUP[::-1]]).told(),
                         [[(0, 0), (1, 0), (2, 0), (0, 1), (2, 1)]])

    def test_x_and_y_are_moved_each_by_its_own_least(self):
        self.assertEqual(Pieces([[(7, 2)]]).told(), [[(0, 0)]])
        self.assertEqual(Pieces([[(0, 9), (0, 10)]]).told(),
                         [[(0, 0), (0, 1)]])
        self.assertEqual(Pieces([[(10, 0), (9, 0)]]).told(),
                         [[(0, 0), (1, 0)]])
        # The cell with the least y is not the one with the least x.
        self.assertEqual(Pieces([[(5, 3), (4, 4), (5, 4)]]).told(),
                         [[(1, 0), (0, 1), (1, 1)]])

    def test_everywhere_on_the_board(self):
        for right in range(11):
            for up in range(11):
                cells = [(x + right, y + up) for x, y in BENDS[3]]
                self.assertEqual(Pieces([cells]).told(), [BENDS[3]])

    def test_no_piece_is_turned(self):
        self.assertEqual(Pieces(BENDS).told(), BENDS)

    def test_in_the_order_in_which_they_were_handed_in(self):
        self.assertEqual(Pieces(MIXED[::-1]).told(),
                         Pieces(MIXED).told()[::-1])

    def test_the_same_piece_twice(self):
        self.assertEqual(Pieces([ONE, SQUARE, [(4, 4)]]).told(),
                         [[(0, 0)], plainly_told([SQUARE])[0], [(0, 0)]])

    def test_one_to_six_pieces(self):
        pieces = [EIGHT, SQUARE, BENT, ONE, CUP, STAIR]
        for many in range(1, 7):
            self.assertEqual(Pieces(pieces[:many]).told(),
                             plainly_told(pieces[:many]))

    def test_pieces_of_one_and_of_eight_cells(self):
        self.assertEqual(Pieces([ONE]).told(), [[(0, 0)]])
        self.assertEqual(Pieces([EIGHT]).told(), plainly_told([EIGHT]))
        row = [(x, 11) for x in range(4, 12)]
        self.assertEqual(Pieces([row]).told(), [[(x, 0) for x in range(8)]])
        self.assertEqual(Pieces([[(y, x) for x, y in row]]).told(),
                         [[(0, x) for x in range(8)]])

    def test_every_small_piece_in_any_order_of_its_cells(self):
        for cells in small_floors(3, 3):
            if len(cells) > 8:
                continue
            away = [(x + 8, y + 9) for x, y in cells]
            told = plainly_told([cells])
            for order in (cells, cells[::-1], away[1:] + away[:1]):
                self.assertEqual(Pieces([order]).told(), told)


class Rims(unittest.TestCase):

    def test_each_piece_has_its_own(self):
        self.assertEqual(Pieces(DOMINOES).rims(), ["eenwws", "ennwss"])
        self.assertEqual(Pieces(MIXED).rims(),
                         ["enws", "ennwss", "ennwwwsees", "eennwwss"])
        self.assertEqual(Pieces(BENDS).rims(), ["eenwnwss", "eennwsws",
                                                "enenwwss", "ennwwses"])

    def test_they_are_those_of_the_moved_pieces(self):
        for pieces in SETS:
            made = Pieces(pieces)
            self.assertEqual(made.rims(),
                             [Floor(cells).rim() for cells in made.told()])

    def test_six_of_them(self):
        pieces = [EIGHT, SQUARE, BENT, ONE, CUP, STAIR]
        self.assertEqual(Pieces(pieces).rims(),
                         [Floor(cells).rim() for cells in pieces])


class Refusals(unittest.TestCase):

    def test_how_many_pieces(self):
        self.assertEqual(refusal([]), (0, "pieces"))
        self.assertIsNone(refusal([ONE] * 6))
        self.assertEqual(refusal([ONE] * 7), (0, "pieces"))
        self.assertEqual(refusal([ONE] * 50), (0, "pieces"))

    def test_how_many_pieces_ahead_of_any_piece(self):
        self.assertEqual(refusal([[]] * 7), (0, "pieces"))
        self.assertEqual(refusal([ONE, NINE] * 4), (0, "pieces"))
        self.assertEqual(refusal([ONE] * 6 + [RING]), (0, "pieces"))

    def test_each_word_at_each_number(self):
        bad = [("many", []), ("many", NINE), ("many", FORTY),
               ("many", [*FORTY, (0, 4)]),
               ("cell", [(12, 0)]), ("cell", [(0, 12)]), ("cell", [(-1, 0)]),
               ("cell", [(0, 0), (0, -1)]), ("cell", [(11, 3), (12, 3)]),
               ("twice", [(4, 4), (4, 4)]), ("twice", [*SQUARE, (0, 0)]),
               ("rim", RING), ("rim", [(0, 0), (1, 1)]),
               ("rim", [(0, 0), (2, 0)])]
        for why, cells in bad:
            for at in range(6):
                pieces = [ONE] * at + [cells]
                self.assertEqual(refusal(pieces), (at, why), cells)
                self.assertEqual(refusal(pieces + [SQUARE] * (5 - at)),
                                 (at, why), cells)

    def test_many_ahead_of_the_cells(self):
        self.assertEqual(refusal([[(12, 0)] * 9]), (0, "many"))
        self.assertEqual(refusal([[(0, 0)] * 9]), (0, "many"))
        self.assertEqual(refusal([[*RING, (7, 7)]]), (0, "many"))
        self.assertEqual(refusal([[(-1, 0)] * 41]), (0, "many"))

    def test_of_eight_cells_the_word_is_that_of_a_floor(self):
        self.assertIsNone(refusal([EIGHT]))
        self.assertEqual(refusal([[*EIGHT[:7], (12, 0)]]), (0, "cell"))
        self.assertEqual(refusal([[*EIGHT[:7], (0, 0)]]), (0, "twice"))
        self.assertEqual(refusal([[*EIGHT[:7], (8, 8)]]), (0, "rim"))

    def test_cell_and_twice_whichever_comes_first(self):
        self.assertEqual(refusal([[(0, 0), (0, 0), (12, 0)]]), (0, "twice"))
        self.assertEqual(refusal([[(0, 0), (12, 0), (0, 0)]]), (0, "cell"))

    def test_of_two_bad_pieces_the_first(self):
        self.assertEqual(refusal([ONE, RING, NINE]), (1, "rim"))
        self.assertEqual(refusal([ONE, NINE, RING]), (1, "many"))
        self.assertEqual(refusal([[(0, 0), (0, 0)], [(12, 0)]]), (0, "twice"))
        self.assertEqual(refusal([SQUARE, ONE, [(12, 0)], [], NINE]),
                         (2, "cell"))

    def test_every_list_of_cells_of_a_small_box(self):
        for cells in subsets(3, 3):
            if len(cells) < 9:
                self.assertEqual(refusal([ONE, cells]),
                                 None if has_one_rim(cells) else (1, "rim"))

    def test_a_piece_beyond_the_board_is_not_moved_onto_it(self):
        self.assertEqual(refusal([[(-3, -3), (-2, -3)]]), (0, "cell"))
        self.assertEqual(refusal([[(12, 12)]]), (0, "cell"))


class Kept(unittest.TestCase):

    def test_what_is_handed_in_stays_as_it_was(self):
        pieces = [[(5, 6), (4, 6), (6, 6), (6, 5)], [(9, 9)]]
        cells = pieces[0]
        Pieces(pieces)
        self.assertEqual(pieces,
                         [[(5, 6), (4, 6), (6, 6), (6, 5)], [(9, 9)]])
        self.assertIs(pieces[0], cells)

    def test_refused_lists_stay_as_they_were(self):
        pieces = [[(6, 5), (5, 5)], [(9, 9), (9, 9)]]
        self.assertEqual(refusal(pieces), (1, "twice"))
        self.assertEqual(pieces, [[(6, 5), (5, 5)], [(9, 9), (9, 9)]])

    def test_a_change_of_the_lists_handed_in_changes_nothing(self):
        pieces = [[(0, 0), (1, 0)], [(0, 0)]]
        made = Pieces(pieces)
        pieces[0].append((2, 0))
        pieces[1][0] = (3, 3)
        pieces.append([(0, 0), (0, 1)])
        self.assertEqual(made.told(), [[(0, 0), (1, 0)], [(0, 0)]])
        self.assertEqual(made.rims(), ["eenwws", "enws"])

    def test_a_change_of_what_was_told_changes_nothing(self):
        made = Pieces(DOMINOES)
        told = made.told()
        told[0].append((2, 0))
        told[1][0] = (3, 3)
        told.pop()
        rims = made.rims()
        rims[0] = "enws"
        rims.append("")
        self.assertEqual(made.told(), DOMINOES)
        self.assertEqual(made.rims(), ["eenwws", "ennwss"])

    def test_new_lists_each_time(self):
        made = Pieces(DOMINOES)
        self.assertIsNot(made.told(), made.told())
        for one, other in zip(made.told(), made.told()):
            self.assertIsNot(one, other)
        self.assertIsNot(made.rims(), made.rims())
        self.assertEqual(made.told(), made.told())
        self.assertEqual(made.rims(), made.rims())

    def test_two_objects_have_nothing_in_common(self):
        one, other = Pieces(DOMINOES), Pieces([SQUARE])
        self.assertEqual(one.told(), DOMINOES)
        self.assertEqual(other.told(), plainly_told([SQUARE]))

    def test_kinds_of_values(self):
        made = Pieces(MIXED)
        self.assertIs(type(made.told()), list)
        self.assertEqual({type(cells) for cells in made.told()}, {list})
        self.assertEqual({type(cell) for cells in made.told()
                          for cell in cells}, {tuple})
        self.assertIs(type(made.rims()), list)
        self.assertEqual({type(rim) for rim in made.rims()}, {str})


class Dominoes(unittest.TestCase):

    def test_along_x_then_along_y(self):
        self.assertIs(type(dominoes()), Pieces)
        self.assertEqual(dominoes().told(),
                         [[(0, 0), (1, 0)], [(0, 0), (0, 1)]])
        self.assertEqual(dominoes().rims(), ["eenwws", "ennwss"])

    def test_told_anew_each_time(self):
        dominoes().told()[0].append((2, 0))
        dominoes().rims().pop()
        self.assertEqual(dominoes().told(),
                         [[(0, 0), (1, 0)], [(0, 0), (0, 1)]])
        self.assertEqual(len(dominoes().rims()), 2)


if __name__ == "__main__":
    unittest.main()
