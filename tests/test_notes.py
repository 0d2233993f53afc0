"""Point 14: floors drawn as rows of signs, and read from them."""

import random
import unittest
from itertools import product

from rimword.errors import BadFloor, BadText, FloorError
from rimword.floors import Floor
from rimword.notes import read, written
from samples import (BRANCHED, BROAD, CUP, FORTY, HOOK, ONE, RAGGED, RING,
                     SQUARE, STAIR, box, grown, has_one_rim, moved,
                     small_floors)

EMPTY = "............"
# Thirty-nine cells around twelve rows of twelve signs, but for a gap.
SNAKE = [(x, 0) for x in range(12)] + [(11, y) for y in range(1, 12)] + \
    [(x, 11) for x in range(11)] + [(0, y) for y in range(6, 11)]


class Written(unittest.TestCase):

    def test_small_ones(self):
        self.assertEqual(written(Floor(ONE)), "#")
        self.assertEqual(written(Floor(SQUARE)), "##\n##")
        self.assertEqual(written(Floor(STAIR)), "###\n..#")
        self.assertEqual(written(Floor(CUP)), "#.#\n###")
        self.assertEqual(written(Floor(HOOK)), "..#.\n####\n.#..")

    def test_from_x_0_and_down_to_y_0(self):
        self.assertEqual(written(Floor([(2, 0)])), "..#")
        self.assertEqual(written(Floor([(0, 2)])), "#\n.\n.")
        self.assertEqual(written(Floor(moved(STAIR, 1, 2))),
                         ".###\n...#\n....\n....")

    def test_no_more_rows_and_columns_than_needed(self):
        for cells in small_floors(3, 3):
            rows = written(Floor(cells)).split("\n")
            self.assertEqual(len(rows), max(y for x, y in cells) + 1)
            self.assertEqual({len(row) for row in rows},
                             {max(x for x, y in cells) + 1})
            for x in range(3):
                for y in range(3):
                    if y < len(rows) and x < len(rows[0]):
                        self.assertEqual(rows[-1 - y][x],
                                         "#" if (x, y) in cells else ".")

    def test_twelve_rows_of_twelve_signs(self):
        rows = written(Floor([(11, 11)])).split("\n")
        self.assertEqual(rows, ["...........#"] + [EMPTY] * 11)
        rows = written(Floor(SNAKE)).split("\n")
        self.assertEqual(rows, ["############"] + ["#..........#"] * 5
                         + ["...........#"] * 5 + ["############"])

    def test_a_text(self):
        self.assertIs(type(written(Floor(RAGGED))), str)


class Read(unittest.TestCase):

    def ask(self, text):
        told = read(text)
        self.assertIs(type(told), Floor)
        return told.cells()

    def test_small_ones(self):
        self.assertEqual(self.ask("#"), ONE)
        self.assertEqual(self.ask("###\n..#"), sorted(STAIR))
        self.assertEqual(self.ask("..#.\n####\n.#.."), HOOK)
        self.assertEqual(self.ask("#\n."), [(0, 1)])
        self.assertEqual(self.ask(".#"), [(1, 0)])

    def test_there_and_back(self):
        chance = random.Random(6)
        floors = [*small_floors(4, 3), BROAD, RAGGED, BRANCHED, FORTY, SNAKE,
                  [(11, 11)], *[grown(40, chance) for _ in range(20)]]
        for cells in floors:
            floor = Floor(cells)
            again = read(written(floor))
            self.assertEqual(again.cells(), floor.cells())
            self.assertEqual((again.first(), again.rim()),
                             (floor.first(), floor.rim()))
            self.assertEqual(written(again), written(floor))

    def test_more_rows_and_columns_than_needed(self):
        for above in range(4):
            for right in range(4):
                text = "\n".join(["." * (3 + right)] * above
                                 + ["#.#" + "." * right, "###" + "." * right])
                self.assertEqual(self.ask(text), sorted(CUP))
                self.assertEqual(written(read(text)), "#.#\n###")
        self.assertEqual(self.ask("\n".join([EMPTY] * 11 + ["#..........."])),
                         ONE)

    def test_twelve_rows_of_twelve_signs(self):
        rows = [EMPTY] * 12
        rows[0] = "...........#"
        self.assertEqual(self.ask("\n".join(rows)), [(11, 11)])
        self.assertEqual(self.ask("############"), box(12, 1))
        self.assertEqual(self.ask("\n".join("############")), box(1, 12))


class Refused(unittest.TestCase):

    def bad_row(self, text):
        with self.assertRaises(FloorError) as caught:
            read(text)
        self.assertIs(type(caught.exception), BadText, text)
        self.assertIs(type(caught.exception.row), int)
        return caught.exception.row

    def why(self, text):
        with self.assertRaises(FloorError) as caught:
            read(text)
        self.assertIs(type(caught.exception), BadFloor, text)
        return caught.exception.why

    def test_the_empty_text(self):
        self.assertEqual(self.bad_row(""), 0)

    def test_a_row_of_no_signs(self):
        for text, row in [("\n", 0), ("\n#", 0), ("#\n", 1), ("##\n##\n", 2),
                          ("#\n\n#", 1), ("\n\n", 0), ("#\n#\n\n", 2)]:
            self.assertEqual(self.bad_row(text), row)

    def test_a_row_of_thirteen(self):
        self.assertEqual(self.bad_row("#" * 13), 0)
        self.assertEqual(self.bad_row("." * 12 + "#"), 0)
        self.assertEqual(self.bad_row("." * 13 + "\n" + "#" * 13), 0)
        self.assertEqual(self.bad_row("#" * 12 + "\n" + "#" * 13), 1)
        self.assertEqual(self.bad_row("#" * 100), 0)

    def test_a_row_of_another_count_than_row_0(self):
        for text, row in [("##\n#", 1), ("#\n##", 1), ("##\n##\n###", 2),
                          ("##\n##\n#\n###", 2), ("...\n...\n##", 2),
                          ("#\n#\n#\n#\n..", 4)]:
            self.assertEqual(self.bad_row(text), row)

    def test_another_sign(self):
        for sign in ("x", " ", "@", "\r", "\t", "0", "*", "\u00e9", "\0", "-"):
            self.assertEqual(self.bad_row(sign), 0)
            self.assertEqual(self.bad_row("#\n" + sign), 1)
            self.assertEqual(self.bad_row("##\n#" + sign + "\n##"), 1)
            self.assertEqual(self.bad_row("##\n" + sign + "#"), 1)
            self.assertEqual(self.bad_row("###\n###\n#" + sign + "#"), 2)

    def test_other_ends_of_rows(self):
        for end in ("\r\n", "\r", "\v", "\f", "\x1c", "\x85", "\u2028"):
            self.assertEqual(self.bad_row("#" + end + "#"), 0)

    def test_a_thirteenth_row(self):
        rows = ["#"] * 13
        self.assertEqual(self.bad_row("\n".join(rows)), 12)
        self.assertEqual(self.bad_row("\n".join(["."] * 12 + ["#"])), 12)
        self.assertEqual(self.bad_row("\n".join(["."] * 40)), 12)
        self.assertEqual(self.bad_row("\n".join(["#"] * 12) + "\n"), 12)

    def test_of_two_bad_rows_the_first(self):
        for text, row in [("##\n#x\n#", 1), ("##\n#\n#x", 1), ("x\n\n", 0),
                          ("x\n##", 0), ("#\n##\nx", 1), ("##\nx\n##", 1)]:
            self.assertEqual(self.bad_row(text), row)
        rows = ["##"] * 14
        for at in range(14):
            for bad in ("#", "x#", "", "###"):
                other = rows[:at] + [bad] + rows[at + 1:]
                # Where row 0 has another count, row 1 is the first bad one.
                row = min(at, 12)
                if at == 0 and bad in ("#", "###"):
                    row = 1
                self.assertEqual(self.bad_row("\n".join(other)), row)

    def test_bad_rows_ahead_of_bad_floors(self):
        self.assertEqual(self.bad_row("..\n.x"), 1)
        self.assertEqual(self.bad_row("#.\n.#\n#"), 2)
        self.assertEqual(self.bad_row("\n".join(["#" * 12] * 13)), 12)

    def test_no_cell(self):
        self.assertEqual(self.why("."), "many")
        self.assertEqual(self.why("..\n..\n.."), "many")
        self.assertEqual(self.why("\n".join([EMPTY] * 12)), "many")

    def test_more_than_forty_cells(self):
        self.assertEqual(self.why("\n".join(["#" * 12] * 12)), "many")
        self.assertEqual(self.why("\n".join(["##########"] * 4
                                            + ["#........."])), "many")
        # As many that have no rim either: "many" comes first.
        self.assertEqual(self.why("\n".join(["#.#.#.#.#.#."] * 7)), "many")
        self.assertEqual(read("\n".join(["##########"] * 4)).cells(),
                         sorted(FORTY))

    def test_no_rim(self):
        for text in ("#.#", "#.\n.#", "###\n#.#\n###", "#\n.\n#"):
            self.assertEqual(self.why(text), "rim")
        self.assertEqual(len(RING), 8)

    def test_each_text_of_small_boxes(self):
        for wide, high in ((1, 4), (4, 1), (2, 3), (3, 3)):
            for signs in product("#.", repeat=wide * high):
                rows = ["".join(signs[at:at + wide])
                        for at in range(0, wide * high, wide)]
                cells = sorted((x, y) for y, row in enumerate(rows[::-1])
                               for x, sign in enumerate(row) if sign == "#")
                text = "\n".join(rows)
                if not cells:
                    self.assertEqual(self.why(text), "many")
                elif not has_one_rim(cells):
                    self.assertEqual(self.why(text), "rim")
                else:
                    self.assertEqual(read(text).cells(), cells)


if __name__ == "__main__":
    unittest.main()
