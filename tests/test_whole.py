"""Point 1 over the whole program, and what the files promise together."""

import unittest

from rimword.colours import signed
from rimword.errors import FloorError
from rimword.floors import Floor, joined, rim_from, seam
from rimword.groups import image, makes_nothing, search, shows, steps
from rimword.heights import highest, shows_ring
from rimword.laying import counted, is_laid, laid
from rimword.notes import read, written
from rimword.pieces import Pieces, dominoes
from rimword.turns import heights, lowest, turned, turns
from rimword.words import corners, inverse, reduced
from samples import (ALIKE, BARS, BENDS, BRANCHED, BROAD, CUP, DOMINOES, HOOK,
                     MIXED, ONE, RAGGED, SETS, SQUARE, STAIR, TORN, box,
                     exchanged, moved, small_floors)
from test_form import CLASSES, FUNCTIONS

PAIR = ((0, 2, 1), (1, 0, 2))
HANDED = [(SQUARE, DOMINOES), (HOOK, BARS), (ONE, ALIKE), (CUP, BENDS),
          (box(4, 3), MIXED), (STAIR, [STAIR]), (box(4, 4, 1, 1), DOMINOES)]


def copied(handed):
    """Lists of the test's own, that may be changed."""
    if isinstance(handed, list):
        return [copied(item) for item in handed]
    return handed


def of_floors(floor):
    """What is asked of a floor alone, by name."""
    first, rim = floor.first(), floor.rim()
    x, y = floor.cells()[-1]
    beside = Floor([(x + 1, y)])
    word, *told = highest(floor)
    ring = ((0, 0), "nesw") if word == "laid" else told
    return [
        ("corners", lambda: corners(first, rim)),
        ("reduced", lambda: reduced(rim + inverse(rim)[:5] + rim)),
        ("inverse", lambda: inverse(rim)),
        ("cells", floor.cells),
        ("has", lambda: [floor.has(*cell) for cell in box(5, 5)]),
        ("first", floor.first),
        ("rim", floor.rim),
        ("rim_from", lambda: rim_from(floor, corners(first, rim)[3])),
        ("rim_from", lambda: rim_from(floor, (50, 50))),
        ("joined", lambda: joined(floor, beside).cells()),
        ("joined", lambda: joined(floor, floor)),
        ("seam", lambda: seam(floor, beside)),
        ("seam", lambda: seam(floor, Floor([(11, 11)]))),
        ("Floor", lambda: Floor(floor.cells() * 2)),
        ("dominoes", lambda: dominoes().told()),
        ("steps", lambda: steps(rim, PAIR)),
        ("steps", lambda: steps(rim, ((0, 1), (0,)))),
        ("image", lambda: image(rim, PAIR)),
        ("highest", lambda: highest(floor)),
        ("shows_ring", lambda: shows_ring(floor, *ring)),
        ("lowest", lambda: lowest(floor)),
        ("written", lambda: written(floor)),
        ("read", lambda: read(written(floor)).cells()),
        ("read", lambda: read(written(floor) + "\n")),
        ("read", lambda: read("...\n...")),
    ]


def of_both(floor, pieces):
    """What is asked of a floor and pieces, by name."""
    rows = laid(floor, pieces) or []
    high, low = highest(floor)[1], lowest(floor)
    pieces_of_two = high if low else [(0, 0, "e")]
    inner = turns(floor, high, low)[:1] if low else [(1, 1)]
    corner = inner[0] if inner else (0, 0)
    return [
        ("told", pieces.told),
        ("rims", pieces.rims),
        ("Pieces", lambda: Pieces(pieces.told() + [[(0, 0), (5, 5)]])),
        ("laid", lambda: laid(floor, pieces)),
        ("counted", lambda: counted(floor, pieces)),
        ("is_laid", lambda: is_laid(floor, pieces, rows)),
        ("makes_nothing", lambda: makes_nothing(pieces, PAIR)),
        ("shows", lambda: shows(floor, pieces, PAIR)),
        ("search", lambda: search(floor, pieces, 3)),
        ("search", lambda: search(floor, pieces, 5)),
        ("signed", lambda: signed(floor, pieces, 6, 6)),
        ("signed", lambda: signed(floor, pieces, -6, -6)),
        ("heights", lambda: heights(floor, pieces_of_two)),
        ("turned", lambda: turned(floor, pieces_of_two, corner)),
        ("turned", lambda: turned(floor, pieces_of_two, (50, 50))),
        ("turns", lambda: turns(floor, pieces_of_two, low or [])),
    ]


def asked(cells, pieces):
    """All that is asked of these, by name."""
    floor = Floor(cells)
    return of_floors(floor) + of_both(floor, Pieces(pieces))


def outcome(ask):
    """What is told, or the refusal."""
    try:
        return ask()
    except FloorError as refusal:
        return (repr(refusal), vars(refusal))


def spoil(told):
    """Change all lists and dicts of what is told."""
    if isinstance(told, (list, tuple)):
        for item in told:
            spoil(item)
    if isinstance(told, list):
        told.reverse()
        told.append("other")
    if isinstance(told, dict):
        told.clear()


class AskedAgain(unittest.TestCase):

    def test_all_of_the_interface_is_asked(self):
        names = {name for name, _ in asked(SQUARE, DOMINOES)}
        listed = {name for named in FUNCTIONS.values() for name in named}
        for named in CLASSES.values():
            for name, methods in named.items():
                listed |= {name, *methods} - {"__init__"}
        self.assertEqual(names, listed)

    def test_after_others_were_asked_and_told_values_were_changed(self):
        asks = [ask for handed in HANDED for ask in asked(*copied(handed))]
        first = [(name, repr(outcome(ask))) for name, ask in asks]
        for name, ask in asks[::-1]:
            spoil(outcome(ask))
        self.assertEqual([(name, repr(outcome(ask))) for name, ask in asks],
                         first)
        for name, ask in asks[::3]:
            spoil(outcome(ask))
            spoil(outcome(ask))
        self.assertEqual([(name, repr(outcome(ask))) for name, ask in asks],
                         first)

    def test_after_what_was_handed_in_was_changed(self):
        for handed in HANDED:
            cells, pieces = copied(list(handed))
            asks = asked(cells, pieces)
            first = [(name, repr(outcome(ask))) for name, ask in asks]
            spoil(pieces)
            spoil(cells)
            self.assertEqual([(name, repr(outcome(ask)))
                              for name, ask in asks], first)

    def test_of_floors_and_pieces_that_are_made_anew(self):
        for handed in HANDED:
            first, again = [[(name, repr(outcome(ask)))
                             for name, ask in asked(*copied(handed))]
                            for _ in range(2)]
            self.assertEqual(first, again)

    def test_what_is_handed_in_stays(self):
        for handed in HANDED:
            mine = copied(list(handed))
            for _, ask in asked(*mine):
                outcome(ask)
            self.assertEqual(mine, list(handed))

    def test_layings_that_are_changed_behind_the_asking(self):
        floor, laying = Floor(SQUARE), [(0, 0, "n"), (1, 0, "n")]
        rows = [(1, 0, 0), (1, 1, 0)]
        asks = [lambda: heights(floor, laying),
                lambda: turns(floor, laying, laying),
                lambda: turned(floor, laying, (1, 1)),
                lambda: is_laid(floor, dominoes(), rows)]
        first = [repr(outcome(ask)) for ask in asks]
        kept, kept_rows = list(laying), list(rows)
        laying.pop()
        rows.pop()
        self.assertNotEqual([repr(outcome(ask)) for ask in asks], first)
        laying.append(kept[1])
        rows.append(kept_rows[1])
        self.assertEqual([repr(outcome(ask)) for ask in asks], first)


class Whole(unittest.TestCase):

    def test_numbers_are_whole(self):
        def look_over(told):
            self.assertNotIsInstance(told, float)
            if isinstance(told, dict):
                look_over(list(told.items()))
            if isinstance(told, (list, tuple)):
                for item in told:
                    look_over(item)

        for handed in HANDED:
            for _, ask in asked(*handed):
                look_over(outcome(ask))


class Moved(unittest.TestCase):

    WAYS = ((1, 0), (0, 1), (2, 2), (3, 1))

    def test_as_many_layings(self):
        for pieces in SETS:
            turned_pieces = [exchanged(cells) for cells in pieces]
            for cells in small_floors(3, 3):
                many = counted(Floor(cells), Pieces(pieces))
                for right, up in self.WAYS:
                    self.assertEqual(counted(Floor(moved(cells, right, up)),
                                             Pieces(pieces)), many)
                self.assertEqual(counted(Floor(exchanged(cells)),
                                         Pieces(turned_pieces)), many)

    def test_alike_signed_or_coloured(self):
        for pieces in SETS:
            turned_pieces = [exchanged(cells) for cells in pieces]
            for cells in small_floors(3, 3)[::4]:
                word = signed(Floor(cells), Pieces(pieces), 6, 6)[0]
                for right, up in self.WAYS:
                    self.assertEqual(signed(Floor(moved(cells, right, up)),
                                            Pieces(pieces), 6, 6)[0], word)
                for wide, high in ((3, 3), (4, 3), (3, 9)):
                    self.assertEqual(
                        signed(Floor(cells), Pieces(pieces), wide, high)[0],
                        signed(Floor(exchanged(cells)), Pieces(turned_pieces),
                               high, wide)[0])

    def test_laid_or_a_ring(self):
        for cells in [*small_floors(4, 3), HOOK, TORN]:
            word = highest(Floor(cells))[0]
            for other in [*[moved(cells, *way) for way in self.WAYS],
                          exchanged(cells)]:
                self.assertEqual(highest(Floor(other))[0], word)
                self.assertEqual(lowest(Floor(other)) is None, word == "ring")

    def test_the_highest_becomes_the_lowest(self):
        # By one cell the black cells are the others; with x and y exchanged,
        # the cells to the left are those to the right.
        for cells in [*small_floors(4, 3), BROAD]:
            low = lowest(Floor(cells))
            if low is None:
                continue
            floor = Floor([(y, x) for x, y in cells])
            self.assertEqual(highest(floor)[1], sorted(
                (y, x, "n" if letter == "e" else "e")
                for x, y, letter in low))
            if max(max(cell) for cell in cells) < 11:
                self.assertEqual(highest(Floor(moved(cells, 1, 0)))[1],
                                 [(x + 1, y, letter) for x, y, letter in low])
                high = highest(Floor(cells))[1]
                self.assertEqual(highest(Floor(moved(cells, 1, 1)))[1],
                                 [(x + 1, y + 1, letter)
                                  for x, y, letter in high])

    def test_rings_that_are_moved(self):
        for cells in (HOOK, TORN, ONE, CUP):
            _, (x, y), word = highest(Floor(cells))
            self.assertTrue(shows_ring(Floor(moved(cells, 2, 4)),
                                       (x + 2, y + 4), word))


class Together(unittest.TestCase):

    def test_what_shows_that_there_is_no_laying(self):
        seen = set()
        for cells in [*small_floors(4, 3)[::3], HOOK, TORN]:
            floor, pieces = Floor(cells), dominoes()
            has = counted(floor, pieces) > 0
            seen.add(has)
            self.assertEqual(laid(floor, pieces) is not None, has)
            self.assertEqual(highest(floor)[0], "laid" if has else "ring")
            self.assertEqual(lowest(floor) is not None, has)
            if has:
                self.assertFalse(shows(floor, pieces, PAIR))
                self.assertFalse(shows_ring(floor, floor.first(), floor.rim()))
                self.assertEqual(signed(floor, pieces, 6, 6)[0], "signed")
        self.assertEqual(seen, {True, False})

    def test_what_a_pair_shows_is_not_laid(self):
        shown = 0
        for pieces in SETS:
            for cells in small_floors(3, 3)[::4]:
                floor, held = Floor(cells), Pieces(pieces)
                if search(floor, held, 3) is not None:
                    shown += 1
                    self.assertIsNone(laid(floor, held))
                if laid(floor, held) is not None:
                    self.assertEqual(signed(floor, held, 3, 3)[0], "signed")
        self.assertGreater(shown, 20)

    def test_letters_and_numbers_of_a_laying(self):
        for cells in (SQUARE, BROAD, box(4, 4)):
            floor = Floor(cells)
            for laying in (highest(floor)[1], lowest(floor)):
                rows = [("en".index(letter), x, y) for x, y, letter in laying]
                self.assertTrue(is_laid(floor, dominoes(), rows))

    def test_a_floor_that_was_drawn_is_as_good(self):
        for cells in (HOOK, BROAD, RAGGED, BRANCHED):
            floor, again = Floor(cells), read(written(Floor(cells)))
            self.assertEqual(highest(again), highest(floor))
            self.assertEqual(lowest(again), lowest(floor))
            self.assertEqual(counted(again, dominoes()),
                             counted(floor, dominoes()))


if __name__ == "__main__":
    unittest.main()
