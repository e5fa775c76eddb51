"""Every refusal of the program."""


class LateError(ValueError):
    """Any refusal."""


class BadProgram(LateError):
    """What was handed in is no program; row is the first that can't be."""

    def __init__(self, row):
        super().__init__(f"row {row} can't be in a program")
        self.row = row


class BadMill(LateError):
    """What was handed in is no mill."""


class BadCells(LateError):
    """What was handed in are not sixteen numbers that cells can hold."""


class BadFuel(LateError):
    """What was handed in is no number of rows that may be done."""


class BadPiece(LateError):
    """What was handed in is no piece."""


class TooMany(LateError):
    """An answer would need more than is promised."""


class BadText(LateError):
    """What was handed in is no written program; line is the first that can't be."""

    def __init__(self, line):
        super().__init__(f"line {line} can't be in a written program")
        self.line = line
