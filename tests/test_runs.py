"""Points 4 and 5: what is in a box and a cell in which beat, how jumps go, what run tells."""

import random
import unittest

from slow import random_mill, random_program, slow_run

from lateboxes.errors import BadCells, BadFuel
from lateboxes.runs import run

PLAINLY = (0, 0, 0, 0)
REST = ("rest",)
ZEROS = [0] * 16
STEPS = list(range(100, 116))


def said(program, mill=PLAINLY, cells=STEPS, fuel=100):
    return run(program, mill, list(cells), fuel)[0]


def says(box, many):
    return (("say", box),) * many


class Kinds(unittest.TestCase):
    def test_kinds_of_what_is_told(self):
        told = run((("say", 0),), PLAINLY, ZEROS, 5)
        self.assertIsInstance(told, tuple)
        self.assertEqual(told, ([0], "end", 1, [0] * 16))
        self.assertEqual([type(part) for part in told], [list, str, int, list])

    def test_all_boxes_hold_0_at_first(self):
        program = tuple(("say", box) for box in range(8))
        self.assertEqual(said(program), [0] * 8)


class Worths(unittest.TestCase):
    def test_put_and_move(self):
        program = (("put", 3, 999), ("move", 7, 3), ("say", 7), ("put", 3, 0), ("say", 7),
                   ("say", 3))
        self.assertEqual(said(program), [999, 999, 0])

    def test_sum_difference_and_product_by_1000(self):
        for one, other in ((0, 0), (999, 1), (999, 999), (1, 2), (2, 1), (0, 999), (37, 28),
                           (500, 500), (250, 4)):
            program = (("put", 1, one), ("put", 2, other), ("add", 3, 1, 2),
                       ("take", 4, 1, 2), ("times", 5, 1, 2), ("say", 3), ("say", 4),
                       ("say", 5), ("add", 1, 1, 1), ("say", 1))
            rest = [(one + other) % 1000, (one - other) % 1000, one * other % 1000]
            self.assertEqual(said(program), rest + [2 * one % 1000])

    def test_a_difference_below_0(self):
        program = (("put", 1, 3), ("put", 2, 5), ("take", 0, 1, 2), ("say", 0))
        self.assertEqual(said(program), [998])

    def test_get_looks_at_the_rest_by_16(self):
        for number in (0, 1, 15, 16, 17, 31, 32, 999):
            program = (("put", 1, number), ("get", 2, 1), ("say", 2))
            self.assertEqual(said(program), [100 + number % 16])

    def test_set_fills_the_rest_by_16(self):
        for number in (0, 1, 15, 16, 17, 31, 32, 999):
            program = (("put", 1, number), ("put", 2, 7), ("set", 1, 2))
            cells = list(STEPS)
            cells[number % 16] = 7
            self.assertEqual(run(program, PLAINLY, STEPS, 9), ([], "end", 3, cells))

    def test_set_holds_what_the_second_box_holds(self):
        program = (("put", 0, 5), ("set", 0, 0), ("put", 1, 6), ("set", 1, 0))
        cells = run(program, PLAINLY, ZEROS, 9)[3]
        self.assertEqual(cells, [0, 0, 0, 0, 0, 5, 5] + [0] * 9)


class Lateness(unittest.TestCase):
    def test_each_lateness_of_each_kind(self):
        kinds = [
            (("put", 1, 5), 0, 2, 5),
            (("move", 1, 2), 0, 2, 30),
            (("add", 1, 2, 2), 0, 2, 60),
            (("take", 1, 2, 3), 0, 2, 23),
            (("get", 1, 2), 1, 4, 114),
            (("times", 1, 2, 3), 2, 4, 210),
        ]
        head = (("put", 2, 30), ("put", 3, 7), REST, REST, REST)
        for row, place, most, worth in kinds:
            for late in range(most + 1):
                mill = (0, 0, 0, 0)[:place] + (late,) + (0, 0, 0, 0)[place + 1:]
                told = said(head + (row,) + says(1, 6), mill)
                self.assertEqual(told, [0] * late + [worth] * (6 - late), (row, mill))

    def test_the_numbers_of_a_mill_are_apart(self):
        program = (("put", 0, 3), REST, REST, ("put", 1, 9), ("get", 2, 0), ("times", 3, 0, 0))
        program += (("say", 1), ("say", 2), ("say", 3)) * 3
        self.assertEqual(said(program, (2, 1, 3, 0)),
                         [9, 103, 0, 9, 103, 9, 9, 103, 9])

    def test_a_row_looks_in_its_own_beat(self):
        # What comes behind the beat of a row doesn't change what the row has come to.
        program = (("put", 0, 1), ("put", 0, 2), ("get", 1, 0), ("put", 0, 9),
                   ("set", 0, 0)) + says(1, 4)
        self.assertEqual(said(program, (0, 4, 0, 0)), [0, 0, 102, 102])

    def test_of_two_in_one_beat_the_later_row_stays(self):
        self.assertEqual(said((("get", 0, 1), ("put", 0, 5)) + says(0, 3), (0, 1, 0, 0)),
                         [5, 5, 5])
        self.assertEqual(said((("get", 0, 1), REST, ("times", 0, 1, 1)) + says(0, 3),
                              (0, 3, 1, 0)), [0, 0, 0])
        self.assertEqual(said((("times", 0, 1, 1), REST, ("get", 0, 1)) + says(0, 3),
                              (0, 1, 3, 0)), [0, 100, 100])

    def test_the_later_row_is_the_one_done_later(self):
        # Row 1 is done behind row 4, and the worths of both come in one beat.
        program = (("go", 4), ("put", 0, 5), ("say", 0), ("stop",), ("get", 0, 1), ("go", 1))
        self.assertEqual(said(program, (0, 2, 0, 0)), [5])
        self.assertEqual(said(program, (0, 1, 0, 0)), [5])

    def test_an_earlier_row_may_come_later(self):
        program = (("get", 0, 1), ("put", 0, 5)) + says(0, 5)
        self.assertEqual(said(program, (0, 4, 0, 0)), [5, 5, 5, 100, 100])

    def test_each_worth_under_way_comes(self):
        program = (("put", 0, 1), ("put", 0, 2), ("put", 0, 3)) + says(0, 4)
        self.assertEqual(said(program, (2, 0, 0, 0)), [1, 2, 3, 3])


class Cells(unittest.TestCase):
    def test_a_get_around_a_set(self):
        head = (("put", 0, 4), ("put", 1, 77))
        ahead = head + (("get", 2, 0), ("set", 0, 1)) + says(2, 3)
        right_behind = head + (("set", 0, 1), ("get", 2, 0)) + says(2, 3)
        for late in (0, 1, 2, 3):
            mill = (0, late, 0, 0)
            # Of a get ahead of a set the worth comes in the beat of the set, or behind it.
            none = max(0, late - 1)
            self.assertEqual(said(ahead, mill), [0] * none + [104] * (3 - none))
            self.assertEqual(said(right_behind, mill), [0] * late + [77] * (3 - late))

    def test_a_set_isnt_late(self):
        program = (("put", 1, 7), REST, REST, ("set", 0, 1), ("get", 2, 0), ("say", 2))
        self.assertEqual(said(program, (2, 0, 4, 3)), [7])

    def test_a_set_in_the_last_row_counts(self):
        for end in ((), (("stop",),)):
            program = (("put", 1, 7), ("set", 0, 1)) + end
            self.assertEqual(run(program, PLAINLY, ZEROS, 9)[3], [7] + [0] * 15)
        program = (("put", 1, 7), ("set", 0, 1), REST)
        self.assertEqual(run(program, PLAINLY, ZEROS, 2), ([], "long", 2, [7] + [0] * 15))


class Jumps(unittest.TestCase):
    def test_a_go_of_each_lateness(self):
        program = (("put", 0, 1), ("put", 1, 2), ("put", 2, 3), ("put", 3, 4), ("go", 8),
                   ("say", 0), ("say", 1), ("say", 2), ("say", 3))
        for jump in range(4):
            told = run(program, (0, 0, 0, jump), ZEROS, 99)
            self.assertEqual(told[:3], ([1, 2, 3][:jump] + [4], "end", 6 + jump))

    def test_an_if_of_each_lateness(self):
        program = (("put", 0, 1), ("put", 1, 2), ("put", 2, 3), ("put", 3, 4), ("if", 0, 8),
                   ("say", 0), ("say", 1), ("say", 2), ("say", 3))
        for jump in range(4):
            mill = (0, 0, 0, jump)
            self.assertEqual(said(program, mill), [1, 2, 3][:jump] + [4])
            stays = (("put", 0, 0),) + program[1:]
            self.assertEqual(said(stays, mill), [0, 2, 3, 4])

    def test_an_if_goes_by_all_but_0(self):
        for number in (1, 2, 999):
            program = (("put", 0, number), ("if", 0, 3), ("say", 0), ("say", 1))
            self.assertEqual(said(program), [0])

    def test_an_if_looks_in_its_own_beat(self):
        program = (("put", 0, 1), ("if", 0, 3), ("say", 0), ("say", 1))
        self.assertEqual(said(program, (0, 0, 0, 0)), [0])
        self.assertEqual(said(program, (1, 0, 0, 0)), [1, 0])
        # The worth that comes while the going is under way doesn't call it off.
        program = (("put", 0, 1), ("put", 0, 0), ("if", 0, 5), ("say", 0), ("stop",),
                   ("say", 1))
        self.assertEqual(said(program, (1, 0, 0, 1)), [0, 0])

    def test_a_go_behind_a_go(self):
        # Each of both goes as late as it would alone, so one row is done where the first leads.
        program = (("go", 4), ("go", 6), ("say", 7), ("stop",), ("put", 0, 4), ("say", 0),
                   ("say", 0), ("stop",))
        self.assertEqual(run(program, (0, 0, 0, 1), ZEROS, 99), ([4], "stop", 5, ZEROS))
        self.assertEqual(run(program, (0, 0, 0, 2), ZEROS, 99), ([0, 4], "stop", 6, ZEROS))

    def test_an_if_behind_a_go(self):
        program = (("put", 0, 1), ("go", 5), ("if", 0, 7), ("say", 7), ("stop",), ("say", 0),
                   ("say", 0), ("stop",))
        self.assertEqual(run(program, (0, 0, 0, 1), ZEROS, 99)[:3], ([1], "stop", 5))
        program = (("put", 0, 0),) + program[1:]
        self.assertEqual(run(program, (0, 0, 0, 1), ZEROS, 99)[:3], ([0, 0], "stop", 6))

    def test_a_stop_behind_a_go(self):
        program = (("go", 2), ("stop",), ("say", 0))
        self.assertEqual(run(program, (0, 0, 0, 0), ZEROS, 99)[:3], ([0], "end", 2))
        self.assertEqual(run(program, (0, 0, 0, 1), ZEROS, 99)[:3], ([], "stop", 2))

    def test_rows_between_are_counted_from_where_the_machine_is(self):
        # The row behind that of the first going is the one behind which the second goes.
        program = (("go", 5), ("go", 3), REST, ("say", 1), ("stop",), ("put", 1, 8), ("stop",))
        self.assertEqual(run(program, (0, 0, 0, 1), ZEROS, 99)[:3], ([8], "stop", 5))


class Ends(unittest.TestCase):
    def test_behind_the_last_row(self):
        self.assertEqual(run((REST,), PLAINLY, ZEROS, 9), ([], "end", 1, ZEROS))

    def test_behind_the_last_row_while_a_going_is_under_way(self):
        for jump in (1, 2, 3):
            mill = (0, 0, 0, jump)
            self.assertEqual(run((("go", 0),), mill, ZEROS, 9), ([], "end", 1, ZEROS))
        program = (("go", 0), REST)
        self.assertEqual(run(program, (0, 0, 0, 1), ZEROS, 9)[1:3], ("long", 9))
        self.assertEqual(run(program, (0, 0, 0, 2), ZEROS, 9)[1:3], ("end", 2))

    def test_a_going_from_the_last_row(self):
        self.assertEqual(run((("go", 0),), PLAINLY, ZEROS, 9), ([], "long", 9, ZEROS))

    def test_a_stop_is_counted(self):
        self.assertEqual(run((("stop",),), PLAINLY, ZEROS, 9), ([], "stop", 1, ZEROS))
        self.assertEqual(run((REST, ("stop",), REST), PLAINLY, ZEROS, 9)[1:3], ("stop", 2))

    def test_fuel_that_is_just_enough(self):
        self.assertEqual(run((REST, REST), PLAINLY, ZEROS, 2)[1:3], ("end", 2))
        self.assertEqual(run((REST, REST), PLAINLY, ZEROS, 1)[1:3], ("long", 1))
        self.assertEqual(run((REST, ("stop",)), PLAINLY, ZEROS, 2)[1:3], ("stop", 2))
        self.assertEqual(run((REST, ("stop",)), PLAINLY, ZEROS, 1)[1:3], ("long", 1))

    def test_no_fuel_and_1000(self):
        program = (("say", 0), ("go", 0))
        self.assertEqual(run(program, PLAINLY, STEPS, 0), ([], "long", 0, STEPS))
        self.assertEqual(run((("stop",),), PLAINLY, STEPS, 0), ([], "long", 0, STEPS))
        self.assertEqual(run(program, PLAINLY, STEPS, 1000), ([0] * 500, "long", 1000, STEPS))

    def test_no_such_fuel(self):
        for fuel in (-1, 1001, 10 ** 30, -10 ** 30, True):
            with self.assertRaises(BadFuel):
                run((REST,), PLAINLY, ZEROS, fuel)

    def test_200_rows(self):
        program = (("go", 199),) + (REST,) * 198 + (("say", 0),)
        self.assertEqual(run(program, PLAINLY, ZEROS, 9)[:3], ([0], "end", 2))
        self.assertEqual(run((REST,) * 200, PLAINLY, ZEROS, 1000)[1:3], ("end", 200))


class CellsHandedIn(unittest.TestCase):
    def test_sixteen_cells(self):
        for cells in (ZEROS, [999] * 16):
            self.assertEqual(run((REST,), PLAINLY, cells, 1)[3], cells)
        for many in (0, 1, 15, 17, 32):
            with self.assertRaises(BadCells):
                run((REST,), PLAINLY, [0] * many, 1)

    def test_what_a_cell_cant_hold(self):
        for at in range(16):
            for number in (-1, 1000, 10 ** 30, False):
                cells = list(ZEROS)
                cells[at] = number
                with self.assertRaises(BadCells):
                    run((REST,), PLAINLY, cells, 1)


class ManyPrograms(unittest.TestCase):
    def test_like_the_slow_run(self):
        chance = random.Random(4)
        ends = {"stop": 0, "end": 0, "long": 0}
        for _ in range(4000):
            program = random_program(chance, 14)
            mill = random_mill(chance)
            cells = [chance.choice([0, 1, 2, 3, 16, 999]) for _ in range(16)]
            fuel = chance.choice([0, 1, 5, 20, 40])
            told = run(program, mill, cells, fuel)
            self.assertEqual(told, slow_run(program, mill, cells, fuel), (program, mill))
            ends[told[1]] += 1
        self.assertGreater(min(ends.values()), 200, ends)


if __name__ == "__main__":
    unittest.main()
