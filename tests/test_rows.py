"""Points 2 and 3: what a program and a mill are; what is refused first."""

import unittest

from lateboxes.errors import BadCells, BadFuel, BadMill, BadPiece, BadProgram, TooMany
from lateboxes.fewest import least, shows
from lateboxes.fits import fitted, packed
from lateboxes.looks import look
from lateboxes.notes import written
from lateboxes.pieces import blocks, kept, ties
from lateboxes.runs import run

PLAINLY = (0, 0, 0, 0)
REST = ("rest",)
GOOD_ROWS = [
    ("put", 0, 0), ("put", 7, 999), ("move", 7, 7), ("add", 7, 0, 7), ("take", 0, 7, 0),
    ("times", 7, 7, 7), ("get", 7, 0), ("get", 0, 7), ("set", 7, 0), ("set", 0, 7),
    ("say", 0), ("say", 7), ("rest",), ("go", 0), ("go", 2), ("if", 0, 2), ("if", 7, 0),
    ("stop",),
]

# What is asked of a program, and of a piece, and a mill.
PROGRAM_CALLS = [
    lambda program, mill: run(program, mill, [0] * 16, 9), look, fitted, packed,
]
MILLESS_CALLS = [blocks, written]
PIECE_CALLS = [
    ties, lambda piece, mill: kept(piece, mill, [0]), least,
    lambda piece, mill: shows(piece, mill, 0, ("way", (0,))),
]


def told_otherwise(row):
    """Rows that are told almost like this one, and can't be, in a program of three rows."""
    word = row[0]
    yield row[:-1]
    yield row + (0,)
    yield (word.upper(),) + row[1:]
    yield (word + " ",) + row[1:]
    yield (word[:-1],) + row[1:]
    yield row[1:] + (word,)
    yield (row,)
    for at in range(1, len(row)):
        beyond = 8
        if word == "put" and at == 2:
            beyond = 1000
        if word in ("go", "if") and at == len(row) - 1:
            beyond = 3
        for other in (-1, beyond, beyond + 1, "0", "", (), (0,), 10 ** 30, None):
            if other is None:
                other = row[at:]
            yield row[:at] + (other,) + row[at + 1:]


class Programs(unittest.TestCase):
    def refused(self, program, row):
        for call in PROGRAM_CALLS:
            with self.assertRaises(BadProgram) as told:
                call(program, PLAINLY)
            self.assertEqual(told.exception.row, row, program)
        for call in MILLESS_CALLS:
            with self.assertRaises(BadProgram) as told:
                call(program)
            self.assertEqual(told.exception.row, row, program)

    def taken(self, program):
        for call in PROGRAM_CALLS:
            # What is fitted and packed has forty rows at the most.
            if len(program) <= 40 or call not in (fitted, packed):
                call(program, PLAINLY)
        for call in MILLESS_CALLS:
            call(program)

    def test_each_kind_of_row_is_taken(self):
        for row in GOOD_ROWS:
            for at in range(3):
                self.taken((REST,) * at + (row,) + (REST,) * (2 - at))

    def test_each_kind_of_row_told_otherwise_is_refused(self):
        tried = 0
        for row in GOOD_ROWS:
            for other in told_otherwise(row):
                if other == row:
                    continue
                for at in range(3):
                    self.refused((REST,) * at + (other,) + (REST,) * (2 - at), at)
                    tried += 1
        self.assertGreater(tried, 1000)

    def test_rows_that_are_no_rows_at_all(self):
        for other in ("rest", "", "stop", 0, -1, 7, (), ((),), (0,), (("rest",),), ("",),
                      ("jump", 0), ("put", (1, 2)), ((("rest",), 0), 1)):
            self.refused((other,), 0)
            self.refused((REST, other), 1)

    def test_no_row_is_deep(self):
        deep = ()
        for _ in range(30):
            deep = (deep, "put", 0)
        self.refused((REST, deep), 1)
        self.refused((REST, ("say", deep)), 1)

    def test_what_is_true_is_no_number(self):
        self.refused((("say", True),), 0)
        self.refused((("go", False),), 0)

    def test_a_row_is_gone_to_only_in_the_program(self):
        for many in (1, 2, 199, 200):
            self.taken((("go", many - 1),) + (REST,) * (many - 1))
            self.refused((REST,) * (many - 1) + (("go", many),), many - 1)
            self.refused((("if", 0, many),) + (REST,) * (many - 1), 0)

    def test_one_row_and_200(self):
        self.taken((REST,))
        self.taken((REST,) * 200)
        self.taken((REST,) * 199 + (("go", 199),))

    def test_no_row_and_201(self):
        self.refused((), 0)
        self.refused((REST,) * 201, 200)
        self.refused((REST,) * 300, 200)
        self.refused((REST,) * 200 + (("rest", 1),), 200)

    def test_the_first_row_that_cant_be_is_told(self):
        self.refused((REST, ("say", 8), REST, ("say", 9), "rest"), 1)
        self.refused((REST, ("go", 5), ("say", 9)), 1)
        self.refused((REST, ("go", 3), ()), 1)
        self.refused((REST,) * 199 + (("say", 8),) + (REST,) * 5, 199)
        self.refused((REST,) * 7 + (("stop", 0),) + (REST,) * 300, 7)
        self.refused((REST, ("go", 199), ("go", 200)) + (REST,) * 300, 2)


class Mills(unittest.TestCase):
    def refused(self, mill):
        for call in PROGRAM_CALLS + PIECE_CALLS:
            with self.assertRaises(BadMill):
                call((REST,), mill)

    def taken(self, mill):
        for call in PROGRAM_CALLS + PIECE_CALLS:
            call((REST,), mill)

    def test_least_and_greatest_and_one_beyond(self):
        most = (2, 4, 4, 3)
        for at in range(4):
            for number in range(most[at] + 1):
                for others in (PLAINLY, most):
                    self.taken(others[:at] + (number,) + others[at + 1:])
            for number in (-1, most[at] + 1, 10 ** 30, -10 ** 30, True):
                for others in (PLAINLY, most):
                    self.refused(others[:at] + (number,) + others[at + 1:])

    def test_four_numbers(self):
        for mill in ((), (0,), (0, 0, 0), (0, 0, 0, 0, 0), (9,) * 5):
            self.refused(mill)


class FirstRefused(unittest.TestCase):
    def refused_first(self, kind, *handed):
        with self.assertRaises(kind):
            run(*handed)

    def test_what_is_handed_in_first_is_refused_first(self):
        self.refused_first(BadProgram, (), (), [], -1)
        self.refused_first(BadMill, (REST,), (), [], -1)
        self.refused_first(BadCells, (REST,), PLAINLY, [], -1)
        self.refused_first(BadFuel, (REST,), PLAINLY, [0] * 16, -1)
        self.refused_first(BadProgram, (), PLAINLY, [0] * 16, 0)
        self.refused_first(BadProgram, (REST, "no"), (0, 0, 0, 4), [0] * 16, 0)
        self.refused_first(BadMill, (REST,), (3, 0, 0, 0), [0] * 16, 1001)
        for call in PROGRAM_CALLS:
            for program in ((), (("say", 8),), (REST,) * 201):
                with self.assertRaises(BadProgram):
                    call(program, (9, 9, 9, 9))
        for call in PIECE_CALLS:
            for piece in ((), (("say", 8),), (REST,) * 13):
                with self.assertRaises(BadPiece):
                    call(piece, (9, 9, 9, 9))

    def test_too_many_is_behind_all_in_fits(self):
        for call in (fitted, packed):
            for many in (41, 200):
                with self.assertRaises(TooMany):
                    call((REST,) * many, PLAINLY)
                with self.assertRaises(BadMill):
                    call((REST,) * many, (0, 0, 0))
                with self.assertRaises(BadProgram) as told:
                    call((REST,) * (many - 1) + (("say", 8),), (0, 0, 0))
                self.assertEqual(told.exception.row, many - 1)
        with self.assertRaises(TooMany):
            packed((("say", 0),) * 7, PLAINLY)
        with self.assertRaises(BadMill):
            packed((("say", 0),) * 7, (0, 0, 0, 4))
        with self.assertRaises(BadProgram):
            packed((("say", 0),) * 7 + (("go", 8),), (0, 0, 0, 4))

    def test_too_many_is_behind_all_in_least(self):
        with self.assertRaises(TooMany):
            least((REST,) * 7, PLAINLY)
        with self.assertRaises(BadMill):
            least((REST,) * 7, (3, 0, 0, 0))
        with self.assertRaises(BadPiece):
            least((REST,) * 13, (3, 0, 0, 0))
        with self.assertRaises(BadPiece):
            least((("stop",),) + (REST,) * 6, PLAINLY)

    def test_too_many_is_behind_all_in_looks(self):
        wide = (("if", 0, 2), ("get", 1, 0), REST, REST, REST, REST) * 33
        rows = tuple(("if", 0, at + 2) if row[0] == "if" else row
                     for at, row in enumerate(wide))
        with self.assertRaises(TooMany):
            look(rows, (0, 4, 0, 0))
        with self.assertRaises(BadProgram):
            look(rows + (("say", 8),), (0, 4, 0, 0))
        with self.assertRaises(BadMill):
            look(rows, (0, 4, 0, 4))


if __name__ == "__main__":
    unittest.main()
