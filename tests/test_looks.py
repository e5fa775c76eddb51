"""Points 6, 7 and 8: which row breaks, why and with which box, and what look tells."""

import random
import unittest

from slow import random_mill, random_program, slow_look, wide_program

from lateboxes.errors import TooMany
from lateboxes.looks import look
from lateboxes.runs import run

PLAINLY = (0, 0, 0, 0)
REST = ("rest",)


def straight(many):
    """A way through that many rows from the first on, none of which goes."""
    return [(at, 0) for at in range(many)]


class Early(unittest.TestCase):
    def test_each_kind_of_row_that_looks(self):
        head = (("put", 3, 5),)
        for row in (("move", 0, 3), ("add", 0, 3, 1), ("add", 0, 1, 3), ("take", 0, 3, 1),
                    ("take", 0, 1, 3), ("times", 0, 3, 1), ("times", 0, 1, 3), ("get", 0, 3),
                    ("set", 3, 1), ("set", 1, 3), ("say", 3), ("if", 3, 0)):
            told = look(head + (row, ("stop",)), (1, 0, 0, 0))
            self.assertEqual(told, (straight(2), "early", 3), row)
            self.assertIsNone(look(head + (REST, row, ("stop",)), (1, 0, 0, 0)), row)

    def test_rows_that_dont_look(self):
        for row in (("put", 3, 3), ("rest",), ("go", 0), ("stop",), ("put", 0, 3)):
            self.assertIsNone(look((("put", 3, 5), row, REST, REST), (1, 0, 0, 0)), row)

    def test_each_lateness(self):
        kinds = [(("put", 0, 1), 0, 2), (("move", 0, 1), 0, 2), (("add", 0, 1, 1), 0, 2),
                 (("take", 0, 1, 1), 0, 2), (("get", 0, 1), 1, 4), (("times", 0, 1, 1), 2, 4)]
        for row, place, most in kinds:
            for late in range(most + 1):
                mill = (0, 0, 0, 0)[:place] + (late,) + (0, 0, 0, 0)[place + 1:]
                for rests in range(6):
                    told = look((row,) + (REST,) * rests + (("say", 0),), mill)
                    expected = None
                    if rests < late:
                        expected = (straight(rests + 2), "early", 0)
                    self.assertEqual(told, expected, (row, mill, rests))

    def test_of_two_boxes_the_one_that_stands_first(self):
        head = (("get", 1, 7), ("get", 2, 7))
        mill = (0, 4, 0, 0)
        for row, box in ((("add", 0, 1, 2), 1), (("add", 0, 2, 1), 2), (("set", 2, 1), 2),
                         (("set", 1, 2), 1), (("times", 0, 3, 2), 2), (("take", 0, 2, 2), 2)):
            self.assertEqual(look(head + (row,), mill), (straight(3), "early", box))

    def test_early_is_ahead_of_over_and_jump(self):
        mill = (0, 4, 0, 3)
        self.assertEqual(look((("get", 0, 7), ("move", 0, 0)), mill),
                         (straight(2), "early", 0))
        self.assertEqual(look((("get", 0, 7), ("get", 1, 7), ("add", 0, 2, 1)), mill),
                         (straight(3), "early", 1))
        self.assertEqual(look((("get", 0, 7), ("go", 0), ("if", 0, 0)), mill),
                         ([(0, 0), (1, 1), (2, 0)], "early", 0))

    def test_a_box_that_was_there_already_is_early_while_a_worth_is_under_way(self):
        program = (("put", 0, 1), REST, REST, ("get", 0, 0), ("say", 0))
        self.assertEqual(look(program, (2, 0, 0, 0)), None)
        self.assertEqual(look(program, (2, 1, 0, 0)), (straight(5), "early", 0))


class Over(unittest.TestCase):
    def test_in_the_same_beat_ahead_of_it_and_behind_it(self):
        for late in range(5):
            mill = (0, late, 0, 0)
            for rests in range(5):
                program = (("get", 0, 7),) + (REST,) * rests + (("put", 0, 5),)
                expected = None
                # The put's worth comes in beat rests + 2, the get's in beat late + 1.
                if rests + 2 <= late + 1:
                    expected = (straight(rests + 2), "over", 0)
                self.assertEqual(look(program, mill), expected, (late, rests))

    def test_each_kind_with_a_worth(self):
        for row in (("put", 3, 0), ("move", 3, 0), ("add", 3, 0, 0), ("take", 3, 0, 0),
                    ("times", 3, 0, 0)):
            self.assertEqual(look((("get", 3, 0), row), (0, 4, 0, 0)),
                             (straight(2), "over", 3))
        self.assertEqual(look((("times", 3, 0, 0), ("get", 3, 0)), (0, 0, 4, 0)),
                         (straight(2), "over", 3))

    def test_by_the_row_s_own_lateness(self):
        for late in range(5):
            told = look((("get", 3, 0), ("times", 3, 0, 0)), (0, 3, late, 0))
            self.assertEqual(told, None if late >= 3 else (straight(2), "over", 3))

    def test_as_late_in_the_next_beat_is_not_over(self):
        self.assertIsNone(look((("get", 3, 0), ("get", 3, 0), ("get", 3, 0)), (0, 4, 0, 0)))

    def test_another_box_is_not_over(self):
        self.assertIsNone(look((("get", 3, 0), ("put", 4, 0)), (0, 4, 0, 0)))

    def test_over_is_ahead_of_jump(self):
        program = (("get", 0, 7), ("go", 0), ("put", 0, 1))
        self.assertEqual(look(program, (0, 4, 0, 3)), ([(0, 0), (1, 1), (2, 0)], "over", 0))


class Jumps(unittest.TestCase):
    def test_a_jump_while_a_going_is_under_way(self):
        for row in (("go", 0), ("if", 0, 0), ("stop",)):
            for jump in range(4):
                for rests in range(4):
                    program = (("go", 5),) + (REST,) * rests + (row,) + (REST,) * 5
                    expected = None
                    if rests < jump:
                        expected = ([(0, 1)] + straight(rests + 2)[1:], "jump", -1)
                    self.assertEqual(look(program, (0, 0, 0, jump)), expected,
                                     (row, jump, rests))

    def test_behind_an_if_by_the_way_on_which_it_goes(self):
        program = (("if", 0, 3), ("stop",), REST, REST)
        self.assertIsNone(look(program, PLAINLY))
        self.assertEqual(look(program, (0, 0, 0, 1)), ([(0, 1), (1, 0)], "jump", -1))

    def test_the_row_of_a_going_is_no_row_between(self):
        program = (("go", 2), REST, ("go", 0), REST)
        self.assertIsNone(look(program, (0, 0, 0, 1)))
        self.assertEqual(look(program, (0, 0, 0, 2)),
                         ([(0, 1), (1, 0), (2, 0)], "jump", -1))

    def test_behind_the_last_row_while_a_going_is_under_way(self):
        for jump in range(4):
            for rests in range(4):
                program = (("go", 0),) + (REST,) * rests
                expected = None
                if rests < jump:
                    # The last one's went is 0, also if it is the go itself.
                    expected = ([(0, 1 if rests else 0)] + straight(rests + 1)[1:],
                                "jump", -1)
                self.assertEqual(look(program, (0, 0, 0, jump)), expected, (jump, rests))

    def test_an_if_in_the_last_row(self):
        program = (REST, ("if", 0, 0))
        self.assertIsNone(look(program, PLAINLY))
        self.assertEqual(look(program, (0, 0, 0, 1)), ([(0, 0), (1, 0)], "jump", -1))

    def test_behind_the_last_row_while_none_is_under_way(self):
        self.assertIsNone(look((REST,), (2, 4, 4, 3)))
        self.assertIsNone(look((("stop",),), (2, 4, 4, 3)))
        self.assertIsNone(look((("if", 0, 0), REST, REST, REST), (2, 4, 4, 3)))


class Ways(unittest.TestCase):
    def test_kinds_of_what_is_told(self):
        told = look((("put", 0, 1), ("say", 0)), (1, 0, 0, 0))
        self.assertIsInstance(told, tuple)
        self.assertEqual([type(part) for part in told], [list, str, int])
        self.assertEqual([type(pair) for pair in told[0]], [tuple, tuple])

    def test_a_go_went_and_the_last_one_did_not(self):
        program = (("go", 2), ("stop",), ("if", 0, 4), ("stop",), ("get", 0, 0), ("say", 0))
        self.assertEqual(look(program, (0, 1, 0, 0)),
                         ([(0, 1), (2, 1), (4, 0), (5, 0)], "early", 0))

    def test_by_all_ways_whatever_ifs_do(self):
        # Box 0 holds 0 in each run, so no run goes there.
        program = (("if", 0, 3), ("say", 1), ("stop",), ("get", 2, 0), ("say", 2))
        self.assertEqual(look(program, (0, 4, 0, 0)),
                         ([(0, 1), (3, 0), (4, 0)], "early", 2))

    def test_a_shortest_way(self):
        # Not going breaks as well, but in a later row.
        program = (("if", 0, 4), REST, ("get", 1, 0), ("say", 1), ("get", 2, 0), ("say", 2))
        self.assertEqual(look(program, (0, 1, 0, 0)),
                         ([(0, 1), (4, 0), (5, 0)], "early", 2))

    def test_of_several_the_first_as_lists_ascend(self):
        program = (("if", 0, 3), ("get", 1, 0), ("say", 1), ("get", 2, 0), ("say", 2))
        self.assertEqual(look(program, (0, 1, 0, 0)), (straight(3), "early", 1))
        # Behind row 0 the first way goes on in row 4, the other one in row 1.
        program = (("go", 3), ("get", 1, 0), ("say", 1), ("if", 0, 1), ("get", 2, 0),
                   ("say", 2))
        self.assertEqual(look(program, (0, 1, 0, 0)),
                         ([(0, 1), (3, 0), (4, 0), (5, 0)], "early", 2))

    def test_of_several_ways_into_one_state_the_first(self):
        program = (("if", 0, 1), ("if", 0, 2), ("get", 1, 0), ("say", 1))
        self.assertEqual(look(program, (0, 1, 0, 0)), (straight(4), "early", 1))
        # Both ways come to row 6 in one beat, and one through lower rows goes later on.
        program = (("if", 0, 3), ("go", 5), REST, ("go", 6), REST, ("go", 7), ("go", 7),
                   ("get", 1, 0), ("say", 1))
        self.assertEqual(look(program, (0, 1, 0, 0)),
                         ([(0, 0), (1, 1), (5, 1), (7, 0), (8, 0)], "early", 1))

    def test_a_row_met_again_may_break(self):
        program = (("say", 0), ("get", 0, 1), ("go", 0))
        self.assertIsNone(look(program, (0, 1, 0, 0)))
        self.assertEqual(look(program, (0, 2, 0, 0)),
                         ([(0, 0), (1, 0), (2, 1), (0, 0)], "early", 0))

    def test_loops_end(self):
        self.assertIsNone(look((("go", 0),), PLAINLY))
        self.assertIsNone(look((("put", 0, 1), ("if", 1, 0), ("go", 0)), PLAINLY))


def blocks(many, size, rows):
    """So many blocks of so many rows; in each ("if", 0, n) and ("go", n) go within it."""
    return tuple(row[:-1] + (row[-1] + block * size,) if row[0] in ("go", "if") else row
                 for block in range(many) for row in rows + (REST,) * (size - len(rows)))


def skips(many):
    """Blocks of six rows and ten states, if gets come 4 late: each if goes over the get or
    not, so each of the four rests is met with a worth under way and without one."""
    return blocks(many, 6, (("if", 0, 2), ("get", 1, 0)))


def forks(many):
    """Blocks of eight rows and eleven states, if gets come 4 late, all ways as long."""
    return blocks(many, 8, (("if", 0, 3), ("get", 1, 0), ("go", 5), ("get", 2, 0)))


class ManyStates(unittest.TestCase):
    mill = (0, 4, 0, 0)
    breaks = (("get", 3, 0), ("say", 3))

    def same_as_slow(self, program, mill, states):
        """Whether look tells this at all, in a program of which so many states are met."""
        told, met = slow_look(program, mill, merge=True)
        self.assertEqual(met, states)
        if met > 250:
            with self.assertRaises(TooMany):
                look(program, mill)
        else:
            self.assertEqual(look(program, mill), told)
        return told

    def test_just_250_and_251_where_nothing_breaks(self):
        self.assertIsNone(look(skips(25), self.mill))
        with self.assertRaises(TooMany):
            look(skips(25) + (REST,), self.mill)
        self.assertIsNone(self.same_as_slow(skips(25), self.mill, 250))
        self.assertIsNone(self.same_as_slow(skips(25) + (REST,), self.mill, 251))

    def test_just_250_and_251_where_a_row_breaks(self):
        way, why, box = look(forks(22) + (REST,) * 6 + self.breaks, self.mill)
        self.assertEqual((why, box, way[-1]), ("early", 3, (183, 0)))
        with self.assertRaises(TooMany):
            look(forks(22) + (REST,) * 7 + self.breaks, self.mill)
        self.same_as_slow(forks(22) + (REST,) * 6 + self.breaks, self.mill, 250)
        self.same_as_slow(forks(22) + (REST,) * 7 + self.breaks, self.mill, 251)

    def test_states_that_only_longer_ways_meet_dont_count(self):
        wide = blocks(1, 2, (("if", 0, 194),)) + tuple(
            row[:-1] + (row[-1] + 2,) if row[0] == "if" else row for row in skips(32))
        with self.assertRaises(TooMany):
            look(wide + (REST,) * 2, self.mill)
        self.assertEqual(look(wide + self.breaks, self.mill),
                         ([(0, 1), (194, 0), (195, 0)], "early", 3))

    def test_states_met_in_the_beat_that_breaks_count(self):
        # The last if parts two ways. One breaks in its second row, and in that beat the
        # other one meets a state more, or has stopped.
        for rests, more, states in ((3, REST, 250), (4, REST, 251), (4, ("stop",), 250)):
            at = 176 + rests
            head = forks(22) + (REST,) * rests + (("if", 0, at + 3),)
            self.same_as_slow(head + self.breaks + (more, ("stop",)), self.mill, states)
            self.same_as_slow(head + (more, ("stop",)) + self.breaks, self.mill, states)

    def test_what_comes_behind_the_beat_that_breaks_doesnt_count(self):
        head = forks(22) + (REST,) * 3 + (("if", 0, 182),)
        self.same_as_slow(head + self.breaks + (REST,) * 9, self.mill, 250)

    def test_a_going_is_part_of_a_state(self):
        program = blocks(35, 4, (("if", 0, 4),)) + (REST,) * 5
        self.assertIsNone(self.same_as_slow(program, (0, 0, 0, 3), 250))
        self.assertIsNone(self.same_as_slow(program + (REST,), (0, 0, 0, 3), 251))
        self.assertIsNone(self.same_as_slow(program + (REST,), PLAINLY, 146))

    def test_each_box_is_part_of_a_state(self):
        self.assertIsNone(self.same_as_slow(forks(22) + (REST,) * 8, self.mill, 250))
        self.assertIsNone(self.same_as_slow(forks(22) + (REST,) * 9, self.mill, 251))

    def test_which_row_sent_a_worth_is_no_part_of_a_state(self):
        program = blocks(25, 8, (("if", 0, 3), ("get", 1, 0), ("go", 5), ("times", 1, 0, 0)))
        self.assertIsNone(self.same_as_slow(program, (0, 4, 4, 0), 200))


class ManyPrograms(unittest.TestCase):
    def test_like_each_way_by_itself(self):
        chance = random.Random(7)
        whys = {"early": 0, "over": 0, "jump": 0, None: 0}
        for _ in range(6000):
            program = random_program(chance, 9)
            mill = random_mill(chance)
            slow = slow_look(program, mill, depth=16)
            if slow is None:
                continue
            told = look(program, mill)
            if slow[0] is not None or told is None or len(told[0]) <= 16:
                self.assertEqual(told, slow[0], (program, mill))
            whys[told and told[1]] += 1
        self.assertGreater(min(whys.values()), 100, whys)

    def test_like_wide_programs_state_by_state(self):
        chance = random.Random(8)
        kinds = {"told": 0, "none": 0, "many": 0}
        for _ in range(200):
            program = wide_program(chance, chance.choice([80, 150, 190]))
            mill = (0, 4, 4, 0)
            told, states = slow_look(program, mill, merge=True)
            if states > 250:
                kinds["many"] += 1
                with self.assertRaises(TooMany):
                    look(program, mill)
            else:
                kinds["none" if told is None else "told"] += 1
                self.assertEqual(look(program, mill), told, program)
        self.assertGreater(min(kinds.values()), 20, kinds)


class NothingBreaks(unittest.TestCase):
    def test_run_tells_the_same_as_by_the_mill_without_lateness(self):
        chance = random.Random(9)
        tried = 0
        while tried < 1500:
            program = random_program(chance, 12)
            mill = random_mill(chance)
            cells = [chance.randrange(1000) for _ in range(16)]
            if mill[:3] == (0, 0, 0) or look_or_none(program, mill) is not None:
                continue
            for fuel in (0, 3, 60):
                self.assertEqual(run(program, mill, cells, fuel),
                                 run(program, (0, 0, 0, mill[3]), cells, fuel), program)
            tried += 1

    def test_where_something_breaks_run_may_tell_otherwise(self):
        program = (("put", 0, 1), ("say", 0))
        self.assertIsNotNone(look(program, (1, 0, 0, 0)))
        self.assertNotEqual(run(program, (1, 0, 0, 0), [0] * 16, 9),
                            run(program, PLAINLY, [0] * 16, 9))


def look_or_none(program, mill):
    try:
        return look(program, mill)
    except TooMany:
        return "many"


if __name__ == "__main__":
    unittest.main()
