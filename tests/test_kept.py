"""Point 1: nothing handed in is changed or kept, and what is told may be changed."""

import unittest

from lateboxes.errors import LateError
from lateboxes.fewest import least, shows
from lateboxes.fits import fitted, packed
from lateboxes.looks import look
from lateboxes.notes import read, written
from lateboxes.pieces import blocks, kept, ties
from lateboxes.runs import run

MILL = (1, 2, 2, 1)
PROGRAM = (("put", 0, 3), ("put", 1, 50), ("rest",), ("set", 0, 1), ("get", 2, 0), ("say", 1),
           ("go", 4), ("say", 2))
BREAKS = PROGRAM[:6] + (("get", 2, 0), ("say", 2))
PIECE = (("get", 0, 1), ("put", 1, 3), ("put", 2, 3), ("say", 0), ("say", 1), ("go", 7))


class Runs(unittest.TestCase):
    def test_cells_handed_in_stay_as_they_were(self):
        cells = list(range(16))
        told = run(PROGRAM, MILL, cells, 40)
        self.assertEqual(cells, list(range(16)))
        self.assertEqual(told[3][3], 50)
        for fuel in (0, 40):
            self.assertIsNot(run(PROGRAM, MILL, cells, fuel)[3], cells)

    def test_cells_handed_in_stay_as_they_were_when_refused(self):
        for cells in ([5] * 17, [1000] * 16, [5] * 16):
            before = list(cells)
            with self.assertRaises(LateError):
                run(PROGRAM, MILL, cells, -1)
            self.assertEqual(cells, before)

    def test_cells_handed_in_may_be_changed_later(self):
        cells = list(range(16))
        told = run(PROGRAM, MILL, cells, 40)
        cells[:] = [9] * 16
        self.assertEqual(told[3], [0, 1, 2, 50] + list(range(4, 16)))
        self.assertEqual(run(PROGRAM, MILL, list(range(16)), 40), told)

    def test_what_is_told_may_be_changed(self):
        for fuel in (0, 1, 40):
            told = run(PROGRAM, MILL, [0] * 16, fuel)
            before = (list(told[0]), told[1], told[2], list(told[3]))
            told[0].append(7)
            told[3].clear()
            self.assertEqual(run(PROGRAM, MILL, [0] * 16, fuel), before)

    def test_asked_again_the_same_is_told(self):
        first = run(PROGRAM, MILL, [0] * 16, 40)
        run(BREAKS, (0, 0, 0, 0), [8] * 16, 40)
        look(PROGRAM, MILL)
        self.assertEqual(run(PROGRAM, MILL, [0] * 16, 40), first)


class Looks(unittest.TestCase):
    def test_what_is_told_may_be_changed(self):
        way, why, box = look(BREAKS, MILL)
        before = (list(way), why, box)
        way.clear()
        self.assertEqual(look(BREAKS, MILL), before)
        self.assertEqual(look(BREAKS, MILL), before)

    def test_asked_again_the_same_is_told(self):
        first = look(PROGRAM, MILL)
        look(BREAKS, (2, 4, 4, 3))
        self.assertIsNone(look(PROGRAM, (0, 0, 0, 0)))
        self.assertEqual(look(PROGRAM, MILL), first)


class Pieces(unittest.TestCase):
    def test_starts_handed_in_stay_as_they_were(self):
        for starts, beats in (([0, 1, 2, 3, 4, 5], 7), ([0, 1, 2, 3, 5, 4], 6), ([0], None),
                              ([0, 1, 2, 3, 6, 4], None), ([0, 0, 1, 2, 3, 4], None),
                              ([5, 4, 3, 2, 1, 0], None), ([-1, 1, 2, 3, 4, 5], None)):
            before = list(starts)
            self.assertEqual(kept(PIECE, MILL, starts), beats)
            self.assertEqual(starts, before)
            with self.assertRaises(LateError):
                kept(PIECE, (), starts)
            self.assertEqual(starts, before)

    def test_starts_handed_in_may_be_changed_later(self):
        starts = least(PIECE, MILL)[1]
        beats = kept(PIECE, MILL, starts)
        self.assertIsNotNone(beats)
        starts[0] = 900
        self.assertIsNone(kept(PIECE, MILL, starts))
        starts[:] = least(PIECE, MILL)[1]
        self.assertEqual(kept(PIECE, MILL, starts), beats)

    def test_lists_that_are_told_may_be_changed(self):
        for call in (lambda: blocks(PROGRAM), lambda: ties(PIECE, MILL),
                     lambda: least(PIECE, MILL)[1]):
            told = call()
            before = list(told)
            told.reverse()
            told.append(7)
            self.assertEqual(call(), before)
            call().clear()
            self.assertEqual(call(), before)

    def test_asked_again_the_same_is_told(self):
        calls = [
            lambda: blocks(PROGRAM), lambda: ties(PIECE, MILL), lambda: least(PIECE, MILL),
            lambda: fitted(PROGRAM, MILL), lambda: packed(PROGRAM, MILL),
            lambda: written(PROGRAM), lambda: read(written(PROGRAM)),
            lambda: shows(PIECE, MILL, 7, ("way", (0, 3))),
            lambda: kept(PIECE, MILL, [0, 1, 2, 3, 4, 5]),
        ]
        first = [call() for call in calls]
        blocks(BREAKS)
        ties(PIECE[:3], (2, 4, 4, 3))
        least(PIECE[:3], (2, 4, 4, 3))
        fitted(BREAKS, (2, 4, 4, 3))
        packed(BREAKS[:3], (2, 4, 4, 3))
        self.assertEqual([call() for call in calls], first)
        self.assertEqual([call() for call in calls[::-1]], first[::-1])


if __name__ == "__main__":
    unittest.main()
