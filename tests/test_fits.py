"""Points 14 and 15: programs fitted and packed, which tell what the given ones tell plainly."""

import random
import unittest

from slow import random_mill, random_program, slow_run
from slow_pieces import slow_blocks, slow_fitted, slow_least

from lateboxes.errors import TooMany
from lateboxes.fits import fitted, packed
from lateboxes.looks import look
from lateboxes.runs import run

PLAINLY = (0, 0, 0, 0)
REST = ("rest",)
STOP = ("stop",)
MOST = (2, 4, 4, 3)


def rests(many):
    return (REST,) * many


class Fits(unittest.TestCase):
    def both(self, program, mill, expected):
        """Fitted and packed tell this, where there is one order alone."""
        self.assertEqual(fitted(program, mill), expected)
        self.assertEqual(packed(program, mill), expected)


class Blocks(Fits):
    def test_one_row(self):
        for late in range(3):
            self.both((("put", 0, 1),), (late, 4, 4, 3), (("put", 0, 1),) + rests(late))
        for late in range(5):
            self.both((("get", 0, 1),), (2, late, 4, 3), (("get", 0, 1),) + rests(late))
            self.both((("times", 0, 1, 1),), (2, 4, late, 3),
                      (("times", 0, 1, 1),) + rests(late))
        for late in range(4):
            self.both((("go", 0),), (2, 4, 4, late), (("go", 0),) + rests(late))
            self.both((("if", 7, 0),), (2, 4, 4, late), (("if", 7, 0),) + rests(late))
        for row in (("say", 0), ("set", 0, 1), STOP, REST):
            self.both((row,), MOST, (row,))

    def test_rows_begin_as_soon_as_their_ties_let(self):
        program = (("get", 0, 7), ("put", 1, 5), ("add", 2, 0, 1), ("say", 2))
        self.assertEqual(fitted(program, (1, 3, 0, 0)),
                         program[:2] + rests(2) + (program[2], REST, program[3]))
        self.assertEqual(fitted(program, PLAINLY), program)
        self.assertEqual(fitted(program, (2, 0, 0, 0)),
                         program[:2] + rests(2) + (program[2], REST, REST, program[3]))

    def test_rows_stay_behind_the_row_ahead_of_them(self):
        # Though the put could begin while the say still waits for the get.
        program = (("get", 0, 7), ("say", 0), ("put", 1, 5))
        self.assertEqual(fitted(program, (2, 4, 0, 0)),
                         program[:1] + rests(4) + program[1:] + rests(2))
        self.assertEqual(len(packed(program, (2, 4, 0, 0))), 6)

    def test_behind_a_block_all_worths_are_there(self):
        program = (("put", 0, 1), ("get", 1, 7), ("say", 6))
        for late in range(5):
            self.assertEqual(fitted(program, (2, late, 0, 0)),
                             program + rests(max(0, late - 1)))
        self.assertEqual(fitted(program, (0, 1, 0, 0)), program)

    def test_behind_a_stop_nothing_is_awaited(self):
        program = (("get", 0, 1), STOP)
        self.both(program, MOST, program)
        self.both(program + (("say", 0),), MOST, program + (("say", 0),))

    def test_a_jump_last(self):
        program = (("get", 0, 1), ("go", 0))
        for late in range(5):
            for jump in range(4):
                ahead = max(0, late - jump - 1)
                self.assertEqual(fitted(program, (0, late, 0, jump)),
                                 program[:1] + rests(ahead) + program[1:] + rests(jump))
        program = (("get", 0, 1), ("if", 0, 0))
        for late in range(5):
            for jump in range(4):
                self.both(program, (0, late, 0, jump),
                          program[:1] + rests(late) + program[1:] + rests(jump))

    def test_rows_packed_behind_a_jump(self):
        program = (("say", 1), ("say", 2), ("go", 0))
        self.assertEqual(fitted(program, (0, 0, 0, 2)), program + rests(2))
        self.assertEqual(packed(program, (0, 0, 0, 2)), (("go", 0), ("say", 1), ("say", 2)))
        self.assertEqual(len(packed(program, (0, 0, 0, 1))), 3)
        self.assertEqual(len(packed(program, (0, 0, 0, 3))), 4)

    def test_rests_are_left_out(self):
        rows = (("put", 0, 1), ("put", 1, 2), ("say", 3))
        program = (REST, rows[0], REST, REST, rows[1], rows[2], REST)
        self.assertEqual(fitted(program, PLAINLY), rows)
        self.assertEqual(len(packed(program, PLAINLY)), 3)
        self.assertEqual(fitted(program, (2, 0, 0, 0)), rows + (REST,))

    def test_blocks_stay_in_turn(self):
        program = (("go", 3), ("say", 1), STOP, ("say", 2), ("go", 1), ("say", 3))
        self.both(program, PLAINLY, program)
        self.assertEqual(fitted(program, (0, 0, 0, 1)), (
            ("go", 4), REST, ("say", 1), STOP, ("say", 2), ("go", 2), REST, ("say", 3)))
        self.assertEqual(packed(program, (0, 0, 0, 1)), (
            ("go", 4), REST, ("say", 1), STOP, ("go", 2), ("say", 2), ("say", 3)))

    def test_what_a_row_goes_to_moves(self):
        program = (("if", 0, 2), ("get", 1, 0), ("say", 1), ("go", 2))
        self.assertEqual(fitted(program, (0, 2, 0, 1)), (
            ("if", 0, 5), REST, ("get", 1, 0), REST, REST, ("say", 1), ("go", 5), REST))
        self.assertEqual(packed(program, (0, 2, 0, 1)), (
            ("if", 0, 5), REST, ("get", 1, 0), REST, REST, ("go", 5), ("say", 1)))


class Rests(Fits):
    def test_rests_alone(self):
        for many in (1, 2, 40):
            for mill in (PLAINLY, MOST):
                self.both(rests(many), mill, (REST,))

    def test_the_last_block_takes_no_rows(self):
        self.both((STOP, REST), MOST, (STOP,))
        self.both((STOP,) + rests(39), MOST, (STOP,))
        self.both((("say", 0), STOP, REST, REST), MOST, (("say", 0), STOP))

    def test_a_row_goes_behind_all(self):
        self.both((("go", 2), STOP, REST), PLAINLY, (("go", 2), STOP, REST))
        self.both((("go", 2), STOP, REST, REST, REST), PLAINLY, (("go", 2), STOP, REST))
        self.both((("if", 5, 1), REST), (0, 0, 0, 2), (("if", 5, 3), REST, REST, REST))
        self.both((REST, REST, ("if", 5, 4), ("go", 0), REST), PLAINLY,
                  (("if", 5, 2), ("go", 0), REST))

    def test_a_row_goes_behind_all_by_several_blocks_without_rows(self):
        program = (("if", 0, 2), ("if", 1, 3), REST, REST)
        self.assertEqual(slow_blocks(program), [(0, 1), (1, 2), (2, 3), (3, 4)])
        self.both(program, PLAINLY, (("if", 0, 2), ("if", 1, 2), REST))

    def test_a_block_ahead_takes_no_rows(self):
        program = (REST, ("say", 0), ("go", 1))
        self.both(program, PLAINLY, (("say", 0), ("go", 0)))
        program = (REST, ("say", 0), ("if", 0, 1), ("go", 0))
        self.both(program, PLAINLY, (("say", 0), ("if", 0, 0), ("go", 0)))

    def test_rows_that_go_to_a_block_without_rows(self):
        program = (("go", 3), ("say", 1), STOP, REST, REST, ("say", 2), ("go", 5))
        self.assertEqual(slow_blocks(program), [(0, 1), (1, 3), (3, 5), (5, 7)])
        self.both(program, PLAINLY,
                  (("go", 3), ("say", 1), STOP, ("say", 2), ("go", 3)))
        # Several blocks without rows side by side, and a going to each.
        program = (("if", 0, 2), ("if", 1, 3), REST, REST, ("say", 0), ("if", 2, 4))
        self.both(program, PLAINLY, (("if", 0, 2), ("if", 1, 2), ("say", 0), ("if", 2, 2)))

    def test_no_rest_is_put_where_no_row_goes(self):
        program = (("if", 0, 0), REST)
        self.both(program, PLAINLY, (("if", 0, 0),))
        program = (("go", 1), ("say", 0), STOP, REST)
        self.both(program, PLAINLY, (("go", 1), ("say", 0), STOP))


class Limits(Fits):
    def test_forty_rows_and_forty_one(self):
        for call in (fitted, packed):
            for many in (39, 40):
                self.assertEqual(call((STOP,) * many, MOST), (STOP,) * many)
                self.assertEqual(call(rests(many), MOST), (REST,))
            for many in (41, 42, 200):
                for row in (STOP, REST):
                    with self.assertRaises(TooMany):
                        call((row,) * many, MOST)

    def test_a_block_of_forty_rows_is_fitted(self):
        program = (("get", 0, 0),) * 40
        told = fitted(program, (0, 4, 0, 0))
        self.assertEqual(told, (("get", 0, 0), REST, REST, REST, REST) * 40)
        self.assertIsNone(look(told, (0, 4, 0, 0)))

    def test_six_rows_but_rests_and_seven_are_packed(self):
        six = tuple(("say", box) for box in range(6))
        self.assertEqual(packed(six, MOST), six)
        self.assertEqual(packed(rests(20) + six + rests(14), MOST), six)
        self.assertEqual(packed(rests(30) + six[:5] + rests(4) + (("go", 0),), PLAINLY),
                         six[:5] + (("go", 0),))
        for program in (six + (("say", 6),), six + (STOP,), six + (("go", 0),),
                        six + (REST, ("if", 0, 0)), six[:3] + rests(5) + six[:4],
                        (STOP,) + six + (STOP,), six + (STOP,) + six + (REST, STOP)):
            with self.assertRaises(TooMany):
                packed(program, MOST)
            fitted(program, MOST)
        split = six + (("if", 0, 3), STOP)
        self.assertEqual(len(packed(split, PLAINLY)), 8)

    def test_a_row_that_is_never_done_counts(self):
        with self.assertRaises(TooMany):
            packed((STOP,) + (("say", 0),) * 7, PLAINLY)


class Drawn(unittest.TestCase):
    def draw(self, chance):
        program = random_program(chance, chance.choice([6, 12, 25, 40]))
        if chance.random() < 0.3:
            # More rests, so that blocks have rests alone.
            program = tuple(REST if row[0] not in ("go", "if", "stop") and chance.random() < 0.7
                            else row for row in program)
        return program, random_mill(chance)

    def test_fitted(self):
        chance = random.Random(20)
        for _ in range(800):
            program, mill = self.draw(chance)
            told = fitted(program, mill)
            self.assertEqual(told, slow_fitted(program, mill), (program, mill))
            self.assertLessEqual(len(told), 200)

    def test_packed_takes_the_fewest_beats_block_by_block(self):
        chance = random.Random(21)
        fewer = 0
        for _ in range(400):
            program, mill = self.draw(chance)
            pieces = [tuple(row for row in program[begin:end] if row != REST)
                      for begin, end in slow_blocks(program)]
            if max(len(piece) for piece in pieces) > 6:
                with self.assertRaises(TooMany):
                    packed(program, mill)
                continue
            if max(len(piece) for piece in pieces) > 5:
                continue
            told = packed(program, mill)
            plain = fitted(program, mill)
            # Both have a rest behind all, or neither.
            takes = [slow_least(piece, mill) if piece else 0 for piece in pieces]
            more = told[-1] == REST and len(told) == sum(takes) + 1
            self.assertEqual(len(told), sum(takes) + more, (program, mill))
            self.assertLessEqual(len(told), len(plain))
            fewer += len(told) < len(plain)
            self.assertEqual(sorted(row[:1] for row in told if row != REST),
                             sorted(row[:1] for row in program if row != REST))
        self.assertGreater(fewer, 100)

    def same(self, program, told, mill, cells):
        """How a program ends, if by the mill the one told for it tells the same."""
        plain = run(program, PLAINLY, cells, 150)
        late = run(told, mill, cells, 1000)
        if "long" in (plain[1], late[1]):
            # What is said until then is the same, too.
            both = min(len(plain[0]), len(late[0]))
            self.assertEqual(plain[0][:both], late[0][:both])
            return "long"
        self.assertEqual((plain[0], plain[1], plain[3]), (late[0], late[1], late[3]),
                         (program, mill, cells))
        self.assertEqual(late, slow_run(told, mill, cells, late[2]))
        return plain[1]

    def test_run_tells_the_same_and_look_lets_them_by(self):
        chance = random.Random(22)
        ends = {"stop": 0, "end": 0, "long": 0}
        seen = {"fewer": 0, "none": 0}
        for _ in range(1200):
            program, mill = self.draw(chance)
            plain = fitted(program, mill)
            told = [plain]
            try:
                told.append(packed(program, mill))
            except TooMany:
                pass
            for one in told:
                self.assertLessEqual(len(one), len(plain))
                seen["fewer"] += len(one) < len(plain)
                try:
                    self.assertIsNone(look(one, mill), (program, mill))
                    seen["none"] += 1
                except TooMany:
                    pass
                cells = [chance.choice([0, 0, 1, 2, 500, 999]) for _ in range(16)]
                ends[self.same(program, one, mill, cells)] += 1
        self.assertGreater(min(ends.values()), 150)
        self.assertGreater(seen["fewer"], 200)
        self.assertGreater(seen["none"], 1000)


class Kinds(unittest.TestCase):
    def test_programs_are_told(self):
        for call in (fitted, packed):
            for program in ((REST,), (("go", 1), REST), (("say", 0), ("if", 0, 0), STOP)):
                told = call(program, MOST)
                self.assertIs(type(told), tuple)
                self.assertEqual({type(row) for row in told}, {tuple})
                run(told, MOST, [0] * 16, 1000)


if __name__ == "__main__":
    unittest.main()
