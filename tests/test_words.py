"""Point 4: corners of a way, reduced words, and the way back."""

import unittest
from itertools import product

from rimword.words import corners, inverse, reduced
from samples import plainly_reduced, way

ALL = ["".join(steps) for many in range(7)
       for steps in product("enws", repeat=many)]


class Corners(unittest.TestCase):

    def test_each_letter(self):
        self.assertEqual(corners((4, 5), "e"), [(4, 5), (5, 5)])
        self.assertEqual(corners((4, 5), "n"), [(4, 5), (4, 6)])
        self.assertEqual(corners((4, 5), "w"), [(4, 5), (3, 5)])
        self.assertEqual(corners((4, 5), "s"), [(4, 5), (4, 4)])

    def test_the_empty_word(self):
        self.assertEqual(corners((7, 3), ""), [(7, 3)])

    def test_a_longer_way(self):
        self.assertEqual(corners((1, 1), "eenw"),
                         [(1, 1), (2, 1), (3, 1), (3, 2), (2, 2)])

    def test_a_way_that_comes_back_tells_its_corner_again(self):
        self.assertEqual(corners((0, 0), "ew"), [(0, 0), (1, 0), (0, 0)])
        self.assertEqual(corners((0, 0), "enws"),
                         [(0, 0), (1, 0), (1, 1), (0, 1), (0, 0)])

    def test_below_nought_and_far_away(self):
        self.assertEqual(corners((0, 0), "wss"),
                         [(0, 0), (-1, 0), (-1, -1), (-1, -2)])
        self.assertEqual(corners((-30, 400), "n"), [(-30, 400), (-30, 401)])

    def test_sixty_steps(self):
        self.assertEqual(corners((0, 0), "e" * 60),
                         [(x, 0) for x in range(61)])

    def test_what_is_told_is_a_list_of_its_own(self):
        told = corners((0, 0), "en")
        told.append((9, 9))
        told[0] = (5, 5)
        self.assertEqual(corners((0, 0), "en"), [(0, 0), (1, 0), (1, 1)])


class Reduced(unittest.TestCase):

    def test_each_pair_that_goes_back(self):
        for pair in ("ew", "we", "ns", "sn"):
            self.assertEqual(reduced(pair), "")

    def test_pairs_that_do_not_go_back_stay(self):
        for pair in ("ee", "en", "es", "ne", "nn", "nw",
                     "wn", "ww", "ws", "se", "sw", "ss"):
            self.assertEqual(reduced(pair), pair)

    def test_the_empty_word(self):
        self.assertEqual(reduced(""), "")

    def test_one_taking_away_makes_the_next(self):
        self.assertEqual(reduced("ensw"), "")
        self.assertEqual(reduced("eennsswwn"), "n")
        self.assertEqual(reduced("nenwessw"), "nesw")

    def test_three_steps_to_and_fro(self):
        self.assertEqual(reduced("ewe"), "e")
        self.assertEqual(reduced("nsnsn"), "n")

    def test_the_ends_are_not_behind_one_another(self):
        self.assertEqual(reduced("enw"), "enw")
        self.assertEqual(reduced("enws"), "enws")

    def test_a_reduced_word_stays(self):
        for word in ALL:
            self.assertEqual(reduced(reduced(word)), reduced(word))

    def test_every_short_word(self):
        for word in ALL:
            self.assertEqual(reduced(word), plainly_reduced(word), word)

    def test_the_way_ends_where_it_ended(self):
        for word in ALL:
            self.assertEqual(way((0, 0), reduced(word))[-1],
                             way((0, 0), word)[-1])

    def test_140_steps_down_to_nothing(self):
        self.assertEqual(reduced("en" * 35 + "sw" * 35), "")
        self.assertEqual(reduced("e" * 140), "e" * 140)


class Inverse(unittest.TestCase):

    def test_each_letter(self):
        self.assertEqual([inverse(step) for step in "enws"],
                         ["w", "s", "e", "n"])

    def test_the_empty_word(self):
        self.assertEqual(inverse(""), "")

    def test_a_longer_word(self):
        self.assertEqual(inverse("eenws"), "nesww")

    def test_it_leads_back_along_the_same_corners(self):
        for word in ALL:
            there = corners((2, 3), word)
            back = corners(there[-1], inverse(word))
            self.assertEqual(back, there[::-1], word)

    def test_a_word_and_its_inverse_make_nothing(self):
        for word in [*ALL, "ennwse" * 10]:
            self.assertEqual(reduced(word + inverse(word)), "", word)
            self.assertEqual(reduced(inverse(word) + word), "", word)

    def test_the_inverse_of_the_inverse(self):
        for word in ALL:
            self.assertEqual(inverse(inverse(word)), word)

    def test_it_is_not_reduced(self):
        self.assertEqual(inverse("ewe"), "wew")


if __name__ == "__main__":
    unittest.main()
