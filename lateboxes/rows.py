"""What rows, programs and mills are, and what a row does with boxes."""

from lateboxes.errors import BadMill, BadProgram

BOXES = 8
CELLS = 16
MOST_HELD = 999
MOST_ROWS = 200

# What stands behind each word: "w" the box that its worth comes into, "b" a box that it
# looks at, "n" a number, "r" a row. All that a row does with boxes is read off this table.
SIGNS = {
    "put": "wn",
    "move": "wb",
    "add": "wbb",
    "take": "wbb",
    "times": "wbb",
    "get": "wb",
    "set": "bb",
    "say": "b",
    "rest": "",
    "go": "r",
    "if": "br",
    "stop": "",
}

# Which number of a mill tells how late the worths of a word come.
LATE_AT = {"put": 0, "move": 0, "add": 0, "take": 0, "get": 1, "times": 2}
JUMP_AT = 3
MOST_LATE = (2, 4, 4, 3)

# The words of rows that go to a row, and of those behind which the next one may not be done.
GOES = ("go", "if")
LEAVES = ("go", "if", "stop")


def is_whole(x, most):
    """Whether x is a number from 0 to most."""
    return isinstance(x, int) and not isinstance(x, bool) and 0 <= x <= most


def most_for(sign, many):
    """The greatest number that a sign stands for in a program of so many rows."""
    if sign == "n":
        return MOST_HELD
    if sign == "r":
        return many - 1
    return BOXES - 1


def is_row(row, many):
    """Whether this can be a row of a program of so many rows."""
    if not isinstance(row, tuple) or not row or not isinstance(row[0], str):
        return False
    signs = SIGNS.get(row[0])
    if signs is None or len(row) != len(signs) + 1:
        return False
    return all([is_whole(x, most_for(sign, many)) for sign, x in zip(signs, row[1:])])


def first_flaw(rows, many):
    """The first of these rows that can't be in a program of so many, or None."""
    for at, row in enumerate(rows[:MOST_ROWS]):
        if not is_row(row, many):
            return at
    if not rows:
        return 0
    return MOST_ROWS if len(rows) > MOST_ROWS else None


def check_program(program):
    """Refuses what is no program, with its first row that can't be."""
    # No program has a row 200 to go to, however many rows are handed in.
    flaw = first_flaw(program, min(len(program), MOST_ROWS))
    if flaw is not None:
        raise BadProgram(flaw)


def check_mill(mill):
    """Refuses what is no mill."""
    if len(mill) != len(MOST_LATE):
        raise BadMill("a mill has four numbers")
    if not all([is_whole(x, most) for x, most in zip(mill, MOST_LATE)]):
        raise BadMill("a number of the mill can't be")


def looked_at(row):
    """The boxes that a row looks at, as they stand in it."""
    return [box for sign, box in zip(SIGNS[row[0]], row[1:]) if sign == "b"]


def made_in(row):
    """The box that a row's worth comes into, or None."""
    return row[1] if row[0] in LATE_AT else None


def lateness(row, mill):
    """How late the worth of a row comes, 0 of a row without one."""
    return mill[LATE_AT[row[0]]] if row[0] in LATE_AT else 0
