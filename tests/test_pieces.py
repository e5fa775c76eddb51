"""Points 9, 10 and 11: blocks, pieces and their ties, and which starts are kept."""

import random
import unittest
from itertools import product

from slow import random_mill, random_program, random_row
from slow_pieces import random_piece, slow_blocks, slow_kept, slow_ties

from lateboxes.errors import BadPiece
from lateboxes.fewest import least, shows
from lateboxes.pieces import blocks, kept, ties

PLAINLY = (0, 0, 0, 0)
REST = ("rest",)
MOST = (2, 4, 4, 3)
BUSY = ("say", 7)


class Blocks(unittest.TestCase):
    def test_a_program_without_jumps_is_one_block(self):
        for many in (1, 2, 41, 200):
            self.assertEqual(blocks((REST,) * many), [(0, many)])

    def test_behind_each_go_if_and_stop(self):
        for row in (("go", 0), ("if", 3, 0), ("stop",)):
            self.assertEqual(blocks((REST, row, REST, REST)), [(0, 2), (2, 4)])
            self.assertEqual(blocks((row, row, REST)), [(0, 1), (1, 2), (2, 3)])

    def test_behind_the_last_row_nothing_begins(self):
        for row in (("go", 0), ("if", 3, 0), ("stop",)):
            self.assertEqual(blocks((row,)), [(0, 1)])
            self.assertEqual(blocks((REST, REST, row)), [(0, 3)])

    def test_at_each_row_that_is_gone_to(self):
        for row in (("go", 2), ("if", 2, 2)):
            self.assertEqual(blocks((REST, REST, REST, REST, row)), [(0, 2), (2, 5)])
            self.assertEqual(blocks((row, REST, REST, REST)), [(0, 1), (1, 2), (2, 4)])
        self.assertEqual(blocks((("if", 0, 1), ("go", 1))), [(0, 1), (1, 2)])

    def test_they_are_told_rising(self):
        program = (("go", 6), REST, ("if", 5, 4), REST, REST, ("stop",), REST, ("go", 1))
        self.assertEqual(blocks(program),
                         [(0, 1), (1, 3), (3, 4), (4, 6), (6, 8)])
        jumps = tuple(("go", 199 - at) for at in range(200))
        self.assertEqual(blocks(jumps), [(at, at + 1) for at in range(200)])

    def test_drawn_programs(self):
        chance = random.Random(9)
        for _ in range(1000):
            program = random_program(chance, 14)
            self.assertEqual(blocks(program), slow_blocks(program), program)

    def test_kinds_of_what_is_told(self):
        told = blocks((("stop",), REST))
        self.assertIs(type(told), list)
        self.assertEqual([type(block) for block in told], [tuple, tuple])


class Pieces(unittest.TestCase):
    def taken(self, piece):
        ties(piece, PLAINLY)
        kept(piece, PLAINLY, list(range(len(piece))))
        shows(piece, PLAINLY, 0, ("way", (0,)))
        if len(piece) <= 6:
            least(piece, PLAINLY)

    def refused(self, piece):
        for call in (lambda: ties(piece, PLAINLY), lambda: kept(piece, PLAINLY, [0]),
                     lambda: least(piece, PLAINLY),
                     lambda: shows(piece, PLAINLY, 0, ("way", (0,)))):
            with self.assertRaises(BadPiece):
                call()

    def test_one_row_and_twelve(self):
        for row in (REST, BUSY, ("go", 0), ("if", 1, 7), ("stop",)):
            for many in range(12):
                self.taken((REST,) * many + (row,))

    def test_no_row_and_thirteen(self):
        self.refused(())
        for many in (13, 14, 200, 201):
            self.refused((REST,) * many)
            self.refused((REST,) * (many - 1) + (("stop",),))

    def test_the_last_row_alone_leaves(self):
        for row in (("go", 0), ("if", 1, 7), ("stop",)):
            for many in (2, 3, 6, 12):
                for at in range(many - 1):
                    piece = (REST,) * at + (row,) + (REST,) * (many - 1 - at)
                    self.refused(piece)
                    self.refused(piece[:-1] + (row,))

    def test_a_jumps_row_may_be_any(self):
        for head in (("go",), ("if", 0)):
            for many in (0, 3, 11):
                for row in (0, 1, 12, 199):
                    self.taken((REST,) * many + (head + (row,),))
                for row in (200, 201, -1, 1000, "0", ()):
                    self.refused((REST,) * many + (head + (row,),))

    def test_rows_that_cant_be(self):
        for row in (("put", 8, 0), ("put", 0, 1000), ("move", 0), ("add", 0, 1, 8),
                    ("take", 0, 1), ("times", -1, 0, 0), ("get", 0, 16), ("set", 0, 8),
                    ("say", 8), ("say", "0"), ("rest", 0), ("stop", 0), ("jump", 0), (), "rest",
                    7, ("",), (0,), (("say", 0),), ("SAY", 0), ("say", True), ("go", False)):
            self.refused((row,))
            self.refused((REST, row))
            self.refused((row, REST))

    def test_the_greatest_that_can_be(self):
        self.taken((("put", 7, 999), ("add", 7, 7, 7), ("get", 7, 7), ("set", 7, 7),
                    ("move", 0, 7), ("if", 7, 199)))


class Ties(unittest.TestCase):
    def far(self, one, other, mill):
        """The far of two rows alone, and of the same two with rests about them."""
        told = ties((one, other), mill)
        if other[0] not in ("go", "if", "stop"):
            about = (REST, one, REST, REST, other, REST)
            self.assertEqual(ties(about, mill), [(1, 4, far) for _, _, far in told])
        if told == []:
            return None
        self.assertEqual(told[0][:2], (0, 1))
        self.assertEqual(len(told), 1)
        return told[0][2]

    def test_other_looks_at_ones_box(self):
        for row, place, most in ((("put", 3, 1), 0, 2), (("move", 3, 1), 0, 2),
                                 (("add", 3, 1, 1), 0, 2), (("take", 3, 1, 1), 0, 2),
                                 (("get", 3, 1), 1, 4), (("times", 3, 1, 1), 2, 4)):
            for late in range(most + 1):
                mill = MOST[:place] + (late,) + MOST[place + 1:]
                for other in (("move", 0, 3), ("add", 0, 3, 2), ("add", 0, 2, 3),
                              ("take", 0, 3, 2), ("take", 0, 2, 3), ("times", 0, 3, 2),
                              ("times", 0, 2, 3), ("get", 0, 3), ("say", 3), ("if", 3, 0)):
                    self.assertEqual(self.far(row, other, mill), late + 1, (row, other, mill))
                for other in (("set", 3, 2), ("set", 2, 3)):
                    self.assertEqual(self.far(row, other, mill), late + 1, (row, other, mill))

    def test_both_worths_come_into_one_box(self):
        for plain, get, times in product(range(3), range(5), range(5)):
            mill = (plain, get, times, 0)
            kinds = ((("put", 3, 1), plain), (("get", 3, 0), get), (("times", 3, 0, 0), times))
            for (one, late), (other, later) in product(kinds, kinds):
                self.assertEqual(self.far(one, other, mill), max(1, late - later + 1))

    def test_others_worth_comes_into_a_box_at_which_one_looks(self):
        for mill in (PLAINLY, MOST, (2, 0, 0, 0), (0, 4, 4, 0)):
            for one in (("move", 0, 3), ("add", 0, 3, 2), ("add", 0, 2, 3), ("get", 0, 3),
                        ("set", 3, 2), ("set", 2, 3), ("say", 3), ("times", 0, 2, 3)):
                for other in (("put", 3, 1), ("move", 3, 5), ("add", 3, 5, 5), ("take", 3, 5, 5),
                              ("times", 3, 5, 5)):
                    self.assertEqual(self.far(one, other, mill), 1)
            self.assertEqual(self.far(("say", 3), ("get", 3, 5), mill), 1)

    def test_set_and_get_and_says(self):
        for mill in (PLAINLY, MOST):
            set_row, get_row = ("set", 0, 1), ("get", 2, 3)
            self.assertEqual(self.far(set_row, get_row, mill), 1)
            self.assertEqual(self.far(get_row, set_row, mill), 1)
            self.assertEqual(self.far(set_row, ("set", 4, 5), mill), 1)
            self.assertEqual(self.far(("say", 0), ("say", 1), mill), 1)
            self.assertEqual(self.far(("say", 0), ("say", 0), mill), 1)
            self.assertIsNone(self.far(get_row, ("get", 4, 5), mill))
            self.assertIsNone(self.far(get_row, ("say", 4), mill))
            self.assertIsNone(self.far(set_row, ("say", 4), mill))
            self.assertIsNone(self.far(("say", 4), set_row, mill))
            self.assertIsNone(self.far(("say", 4), get_row, mill))

    def test_rows_without_a_tie(self):
        apart = [("put", 0, 1), ("move", 1, 4), ("add", 2, 4, 5), ("times", 3, 5, 4), REST]
        for one, other in product(apart, apart):
            if one != other or one == REST:
                self.assertIsNone(self.far(one, other, MOST))
        # Boxes, not numbers, are what rows have in common.
        self.assertIsNone(self.far(("put", 0, 3), ("put", 3, 0), MOST))
        self.assertIsNone(self.far(("put", 0, 3), ("say", 3), MOST))

    def test_other_is_a_go_or_an_if(self):
        for plain, get, times, jump in product((0, 1, 2), (0, 1, 4), (0, 3, 4), range(4)):
            mill = (plain, get, times, jump)
            for other in (("go", 0), ("go", 199), ("if", 7, 3)):
                self.assertEqual(self.far(("put", 0, 7), other, mill), plain - jump)
                self.assertEqual(self.far(("get", 0, 7), other, mill), get - jump)
                self.assertEqual(self.far(("times", 0, 7, 7), other, mill), times - jump)
                for one in (REST, ("say", 7), ("set", 7, 7)):
                    self.assertEqual(self.far(one, other, mill), -jump)
            self.assertEqual(self.far(("get", 0, 7), ("if", 0, 3), mill), get + 1)

    def test_other_is_a_stop(self):
        for mill in (PLAINLY, MOST):
            for one in (REST, ("say", 7), ("put", 0, 1), ("get", 0, 1), ("set", 1, 1)):
                self.assertEqual(self.far(one, ("stop",), mill), 1)

    def test_the_greatest_of_several(self):
        self.assertEqual(self.far(("get", 0, 1), ("add", 0, 0, 0), (2, 4, 0, 0)), 5)
        self.assertEqual(self.far(("get", 0, 0), ("get", 0, 0), (0, 3, 0, 0)), 4)
        self.assertEqual(self.far(("get", 0, 1), ("move", 0, 2), (2, 4, 0, 0)), 3)
        self.assertEqual(self.far(("get", 0, 1), ("put", 1, 2), (2, 4, 0, 0)), 1)
        self.assertEqual(self.far(("get", 0, 1), ("put", 0, 2), (2, 1, 0, 0)), 1)

    def test_they_are_told_ascending(self):
        piece = (("get", 0, 1), ("say", 0), REST, ("put", 1, 9), ("say", 1), ("if", 2, 5))
        self.assertEqual(ties(piece, (1, 2, 0, 1)), [
            (0, 1, 3), (0, 3, 1), (0, 5, 1), (1, 4, 1), (1, 5, -1), (2, 5, -1), (3, 4, 2),
            (3, 5, 0), (4, 5, -1)])
        self.assertEqual(ties((REST,), MOST), [])
        told = ties((REST,) * 11 + (("stop",),), MOST)
        self.assertEqual(told, [(at, 11, 1) for at in range(11)])
        told = ties((("say", 0),) * 12, MOST)
        self.assertEqual(told, [(one, other, 1) for one in range(12)
                                for other in range(one + 1, 12)])

    def test_kinds_of_what_is_told(self):
        told = ties((("say", 0), ("go", 0)), MOST)
        self.assertIs(type(told), list)
        self.assertIs(type(told[0]), tuple)
        self.assertEqual([type(part) for part in told[0]], [int, int, int])

    def test_drawn_pieces(self):
        chance = random.Random(10)
        for _ in range(1500):
            piece = random_piece(chance, 1, 12)
            mill = random_mill(chance)
            self.assertEqual(ties(piece, mill), slow_ties(piece, mill), (piece, mill))


class Kept(unittest.TestCase):
    def test_what_are_no_starts(self):
        piece = (("put", 0, 1), ("put", 1, 1), ("put", 2, 1))
        self.assertEqual(kept(piece, PLAINLY, [2, 0, 1]), 3)
        for starts in ([], [0], [0, 1], [0, 1, 2, 3], [0, 1, 2, -1], [-1, 0, 1], [0, 1, -1],
                       [0, 0, 1], [0, 1, 0], [5, 1, 1], [3, 3, 3], [-2, -3, -1], [0, 1, -999]):
            self.assertIsNone(kept(piece, PLAINLY, starts), starts)

    def test_beats_far_apart(self):
        piece = (("put", 0, 1), ("get", 1, 1))
        self.assertEqual(kept(piece, PLAINLY, [0, 999]), 1000)
        self.assertEqual(kept(piece, (0, 4, 0, 0), [7, 999]), 1004)
        self.assertEqual(kept(piece, (2, 4, 0, 0), [999, 998]), 1003)

    def test_a_tie_that_is_kept_and_broken(self):
        for late in range(5):
            piece = (("get", 0, 1), ("say", 0))
            mill = (0, late, 0, 0)
            for beat in range(8):
                expected = beat + 4 if beat >= late + 1 else None
                self.assertEqual(kept(piece, mill, [3, beat + 3]), expected)
            self.assertIsNone(kept(piece, mill, [3, 2]))

    def test_each_tie_counts(self):
        piece = (("get", 0, 1), ("put", 2, 5), ("add", 3, 0, 2), ("say", 3))
        mill = (1, 3, 0, 0)
        self.assertEqual(kept(piece, mill, [0, 2, 4, 6]), 7)
        self.assertEqual(kept(piece, mill, [1, 0, 5, 7]), 8)
        for starts in ([0, 2, 3, 6], [0, 3, 4, 6], [0, 2, 4, 5], [0, 2, 6, 4], [4, 2, 5, 7]):
            self.assertIsNone(kept(piece, mill, starts), starts)

    def test_ties_far_below_0(self):
        for jump in range(4):
            mill = (0, 0, 0, jump)
            for other in (("go", 9), ("if", 7, 9)):
                for one in (REST, ("say", 0), ("set", 0, 1), ("put", 0, 1)):
                    for behind in range(1, 6):
                        expected = 2 + jump + 1 if behind <= jump else None
                        self.assertEqual(kept((one, other), mill, [2 + behind, 2]), expected)
                    self.assertEqual(kept((one, other), mill, [1, 2]), 2 + jump + 1)

    def test_ties_far_0(self):
        piece = (("get", 0, 1), ("go", 3))
        self.assertIsNone(kept(piece, (0, 2, 0, 2), [1, 0]))
        self.assertEqual(kept(piece, (0, 2, 0, 2), [0, 1]), 4)
        self.assertIsNone(kept(piece, (0, 3, 0, 2), [1, 0]))
        self.assertEqual(kept(piece, (0, 3, 0, 2), [0, 1]), 4)
        self.assertIsNone(kept(piece, (0, 4, 0, 2), [0, 1]))
        self.assertEqual(kept(piece, (0, 4, 0, 2), [0, 2]), 5)
        self.assertEqual(kept(piece, (0, 1, 0, 2), [1, 0]), 3)

    def test_beats_with_a_go_or_an_if_last(self):
        for jump in range(4):
            for row in (("go", 0), ("if", 7, 0)):
                self.assertEqual(kept((row,), (2, 4, 4, jump), [0]), jump + 1)
                self.assertEqual(kept((row,), (2, 4, 4, jump), [6]), 6 + jump + 1)
                self.assertEqual(kept((("get", 0, 1), row), (0, 4, 0, jump), [0, 5]), 6 + jump)

    def test_beats_with_a_stop_last(self):
        piece = (("get", 0, 1), ("stop",))
        self.assertEqual(kept(piece, MOST, [0, 1]), 2)
        self.assertEqual(kept(piece, MOST, [4, 9]), 10)
        self.assertIsNone(kept(piece, MOST, [1, 0]))
        self.assertEqual(kept((("stop",),), MOST, [0]), 1)

    def test_beats_with_another_row_last(self):
        piece = (("get", 0, 4), ("times", 1, 4, 4), ("put", 2, 4), ("say", 4))
        for mill in product(range(3), range(5), range(5), (0, 3)):
            self.assertEqual(kept(piece, mill, [0, 1, 2, 3]),
                             max(mill[1], 1 + mill[2], 2 + mill[0], 3) + 1)
            self.assertEqual(kept(piece, mill, [3, 2, 1, 0]),
                             max(3 + mill[1], 2 + mill[2], 1 + mill[0]) + 1)
        self.assertEqual(kept((REST, ("get", 0, 1), REST), MOST, [4, 0, 2]), 5)
        self.assertEqual(kept((REST, ("get", 0, 1), REST), MOST, [4, 1, 2]), 6)

    def test_all_starts_of_small_pieces(self):
        chance = random.Random(11)
        none = 0
        for _ in range(60):
            piece = random_piece(chance, 1, 3)
            mill = random_mill(chance)
            for starts in product(range(-1, 6), repeat=len(piece)):
                told = kept(piece, mill, list(starts))
                self.assertEqual(told, slow_kept(piece, mill, starts), (piece, mill, starts))
                none += told is None
        self.assertGreater(none, 1000)

    def test_drawn_starts(self):
        chance = random.Random(12)
        numbers = 0
        for _ in range(3000):
            piece = random_piece(chance, 1, 12)
            mill = random_mill(chance)
            starts = [at * chance.randint(1, 5) + chance.randint(-1, 3)
                      for at in range(len(piece))]
            told = kept(piece, mill, starts)
            self.assertEqual(told, slow_kept(piece, mill, starts), (piece, mill, starts))
            numbers += told is not None
        self.assertGreater(numbers, 200)

    def test_rows_of_all_kinds(self):
        chance = random.Random(13)
        for _ in range(2000):
            row = random_row(chance, 200)
            mill = random_mill(chance)
            beat = chance.randint(0, 9)
            self.assertEqual(kept((row,), mill, [beat]), slow_kept((row,), mill, [beat]))


if __name__ == "__main__":
    unittest.main()
