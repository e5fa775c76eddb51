"""Point 16: programs written and read."""

import random
import unittest

from slow import random_program

from lateboxes.errors import BadProgram, BadText
from lateboxes.notes import read, written

REST = ("rest",)
ALL = (
    ("put", 0, 999), ("move", 1, 2), ("add", 3, 4, 5), ("take", 6, 7, 0), ("times", 1, 1, 1),
    ("get", 2, 3), ("set", 4, 5), ("say", 6), REST, ("go", 11), ("if", 7, 0), ("stop",),
)
ALL_WRITTEN = """put 0 999
move 1 2
add 3 4 5
take 6 7 0
times 1 1 1
get 2 3
set 4 5
say 6
rest
go 11
if 7 0
stop"""


class Written(unittest.TestCase):
    def test_each_kind_of_row(self):
        self.assertEqual(written(ALL), ALL_WRITTEN)
        self.assertIs(type(written(ALL)), str)

    def test_one_row_and_200(self):
        self.assertEqual(written((REST,)), "rest")
        self.assertEqual(written((REST,) * 199 + (("go", 199),)), "rest\n" * 199 + "go 199")
        self.assertEqual(len(written((("times", 7, 7, 7),) * 200)), 12 * 200 - 1)

    def test_wrong_programs(self):
        for program, row in (((), 0), ((REST,) * 201, 200), ((REST, ("say", 8)), 1),
                             ((REST, ("go", 3), ()), 1), ((("put", 0, "0"),), 0)):
            with self.assertRaises(BadProgram) as told:
                written(program)
            self.assertEqual(told.exception.row, row)


class Read(unittest.TestCase):
    def refused(self, text, line):
        with self.assertRaises(BadText) as told:
            read(text)
        self.assertEqual(told.exception.line, line, text)

    def refused_row(self, row):
        """This row is refused wherever it stands."""
        self.refused(row, 0)
        self.refused(row + "\nrest\nrest", 0)
        self.refused("rest\n" + row + "\nrest", 1)
        self.refused("rest\nrest\n" + row, 2)

    def test_each_kind_of_row(self):
        told = read(ALL_WRITTEN)
        self.assertEqual(told, ALL)
        self.assertIs(type(told), tuple)
        self.assertEqual({type(row) for row in told}, {tuple})
        self.assertEqual([type(x) for x in told[0]], [str, int, int])

    def test_what_is_written_is_read_to_the_same(self):
        chance = random.Random(24)
        for most in (1, 3, 40, 200):
            for _ in range(150):
                program = random_program(chance, most)
                text = written(program)
                self.assertEqual(read(text), program)
                self.assertEqual(written(read(text)), text)
        for number in range(1000):
            self.assertEqual(read("put 0 " + str(number)), (("put", 0, number),))
            self.assertEqual(written((("put", 0, number),)), "put 0 " + str(number))

    def test_words(self):
        for row in ("", "Rest", "REST", "rests", "res", "jump", "rest,", "0", "7 0", "# rest",
                    "rest ; 1", "~", "stop.", "put_0_1", "say\\0"):
            self.refused_row(row)

    def test_blanks(self):
        for row in (" rest", "rest ", "rest  ", " ", "  ", "say  0", "say 0 ", " say 0",
                    "put 0  1", "put  0 1", "put 0 1 ", "put 0 ", "put ", "put  ", "stop ",
                    "go  0", "go 0 ", "say0", "say 0 0", "put 01", "put 0,1"):
            self.refused_row(row)

    def test_how_many_numbers(self):
        for row in ("put", "put 0", "put 0 1 2", "move 0", "move 0 1 2", "add 0 1", "add 0 1 2 3",
                    "take 1", "times 1 1", "get 0", "get 0 0 0", "set 0", "set 0 0 0", "say",
                    "say 0 0", "rest 0", "go", "go 0 0", "if 0", "if 0 0 0", "stop 0"):
            self.refused_row(row)

    def test_numbers(self):
        for number in ("00", "000", "01", "007", "0000", "0001", "-1", "-0", "+1", "1.0", "1e1",
                       "0x1", "1_0", "ten", "a", "1a", "a1", "rest", "9999", "1000", "12345",
                       "'1'", "1-", "(1)", "1/1", "^1"):
            self.refused_row("put 0 " + number)
            self.refused_row("put " + number + " 0")
            self.refused_row("go " + number)
            self.refused_row("say " + number)
        for many in (4, 100, 2400, 5000):
            self.refused("say " + "9" * many, 0)
            self.refused("say " + "0" * many, 0)
        for number in ("0", "1", "9", "10", "99", "100", "999", "700"):
            self.assertEqual(read("put 0 " + number), (("put", 0, int(number)),))

    def test_numbers_that_cant_be(self):
        for row in ("say 8", "put 8 0", "move 0 8", "add 0 0 8", "add 0 8 0", "times 10 0 0",
                    "get 0 15", "set 8 0", "if 8 0", "say 999", "go 3", "if 0 3", "go 999"):
            self.refused_row(row)

    def test_rows_of_a_program_of_as_many_rows(self):
        self.refused("go 1", 0)
        self.assertEqual(read("go 1\nrest"), (("go", 1), REST))
        self.refused("rest\nif 0 2", 1)
        self.refused("go 2\nrest", 0)
        self.assertEqual(read("go 199\n" + "rest\n" * 198 + "rest")[0], ("go", 199))
        self.refused("go 199\n" + "rest\n" * 197 + "rest", 0)
        self.refused("go 200\n" + "rest\n" * 198 + "rest", 0)
        self.refused("rest\n" * 199 + "go 200", 199)

    def test_empty_rows(self):
        self.refused("", 0)
        self.refused("\n", 0)
        self.refused("\nrest", 0)
        self.refused("rest\n\nrest", 1)
        self.refused("rest\n", 1)
        self.refused("rest\nstop\n", 2)
        self.refused(ALL_WRITTEN + "\n", 12)
        self.refused("rest\n\n", 1)

    def test_200_rows_and_201(self):
        self.assertEqual(read("rest\n" * 199 + "rest"), (REST,) * 200)
        self.refused("rest\n" * 200 + "rest", 200)
        self.refused("rest\n" * 200, 200)
        self.refused("rest\n" * 200 + "say 8", 200)
        self.refused("rest\n" * 300, 200)
        self.refused("rest\n" * 199 + "\nrest", 199)
        self.refused("rest\n" * 199 + "say 8\nrest\nrest", 199)

    def test_goings_in_a_text_of_more_than_200_lines(self):
        for many in (201, 202, 203, 250, 300, 500, 999):
            for going in ("go ", "if 7 "):
                last = going + str(many - 1)
                beyond = going + str(many)
                self.refused("\n".join([last] * many), 200)
                self.refused("\n".join([beyond] * many), 0)
                for at in (0, 1, 100, 199, 200, many - 1):
                    lines = ["rest"] * many
                    lines[at] = last
                    self.refused("\n".join(lines), 200)
                    lines[at] = beyond
                    self.refused("\n".join(lines), min(at, 200))
        self.refused("\n".join(["go 200"] * 200), 0)
        self.refused("\n".join(["go 201"] * 201), 0)
        self.refused("\n".join(["go 200"] * 201), 200)
        self.refused("\n".join(["if 8 200"] * 201), 0)
        self.refused("\n".join(["go 0200"] * 201), 0)
        self.refused("\n".join(["go 200"] * 150 + ["say 8"] + ["go 200"] * 50), 150)
        self.refused("\n".join(["go 999"] * 1000), 200)
        self.refused("\n".join(["go 1000"] * 1001), 0)

    def test_goings_in_texts_of_many_lengths(self):
        chance = random.Random(8)
        for _ in range(400):
            many = chance.choice([1, 2, 199, 200, 201, 202, 230])
            goals = [chance.randrange(many) for _ in range(many)]
            for _ in range(chance.randrange(3)):
                goals[chance.randrange(many)] = many + chance.randrange(3)
            text = "\n".join(["go " + str(goal) for goal in goals])
            wrong = [at for at, goal in enumerate(goals) if goal >= many or at == 200]
            if wrong:
                self.refused(text, wrong[0])
            else:
                self.assertEqual(read(text), tuple([("go", goal) for goal in goals]))

    def test_the_first_line_that_cant_be_is_told(self):
        self.refused("rest\nsay 8\nsay 9\nno", 1)
        self.refused("say\nsay 8", 0)
        self.refused("rest\ngo 4\nsay 8", 1)
        self.refused("rest\ngo 2\nsay 8", 2)
        self.refused("rest\n" * 150 + "sya 0\n" + "rest\n" * 100, 150)


if __name__ == "__main__":
    unittest.main()
