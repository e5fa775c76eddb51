"""What programs say on the machine."""

from lateboxes.errors import BadCells, BadFuel
from lateboxes.rows import (
    BOXES, CELLS, JUMP_AT, MOST_HELD, check_mill, check_program, is_whole, lateness, made_in,
)

MOST_FUEL = 1000


class Machine:
    """The machine in the middle of a run: what it holds, and what is under way."""

    def __init__(self, mill, cells):
        self.mill = mill
        self.boxes = [0] * BOXES
        self.cells = list(cells)
        self.said = []
        self.beat = 0
        self.at = 0
        self.stopped = False
        self.worths = {}
        self.goings = {}

    def do_row(self, row):
        """Does the row of this beat and goes on to the next beat."""
        word = row[0]
        box = made_in(row)
        if box is not None:
            self.send(box, self.worth(row), self.beat + lateness(row, self.mill) + 1)
        elif word == "set":
            # No row behind this one is done in this beat, so none sees the cell too soon.
            self.cells[self.cell_of(row[1])] = self.boxes[row[2]]
        elif word == "say":
            self.said.append(self.boxes[row[1]])
        elif word == "stop":
            self.stopped = True
        elif word == "go" or word == "if" and self.boxes[row[1]] != 0:
            self.goings[self.beat + self.mill[JUMP_AT] + 1] = row[-1]
        self.begin_beat()

    def begin_beat(self):
        """Lets come what comes in the next beat."""
        self.beat += 1
        come = self.worths.pop(self.beat, [])
        # They stand as their rows were done, so the one of the later row stays.
        for box, worth in come:
            self.boxes[box] = worth
        self.at = self.goings.pop(self.beat, self.at + 1)

    def send(self, box, worth, beat):
        """Puts a worth under way, to be in its box from that beat on."""
        self.worths.setdefault(beat, []).append((box, worth))

    def cell_of(self, box):
        """Which cell a box stands for."""
        return self.boxes[box] % CELLS

    def worth(self, row):
        """What a row with a worth comes to."""
        word = row[0]
        if word == "put":
            return row[2]
        if word == "move":
            return self.boxes[row[2]]
        if word == "get":
            return self.cells[self.cell_of(row[2])]
        return reckoned(word, self.boxes[row[2]], self.boxes[row[3]])


def reckoned(word, one, other):
    """Sum, difference or product as a box can hold it."""
    if word == "add":
        worth = one + other
    elif word == "take":
        worth = one - other
    else:
        worth = one * other
    return worth % (MOST_HELD + 1)


def check_cells(cells):
    """Refuses what cells can't hold at first."""
    if len(cells) != CELLS:
        raise BadCells("there are sixteen cells")
    if not all([is_whole(x, MOST_HELD) for x in cells]):
        raise BadCells("a cell can't hold this")


def check_fuel(fuel):
    """Refuses what is no fuel."""
    if not is_whole(fuel, MOST_FUEL):
        raise BadFuel("fuel goes from 0 to 1000")


def ending(machine, many, fuel):
    """How the run of a program of so many rows has ended, or None."""
    if machine.stopped:
        return "stop"
    # Fuel that gives out just behind the last row has not been too little.
    if machine.at == many:
        return "end"
    if machine.beat == fuel:
        return "long"
    return None


def run(program, mill, cells, fuel):
    """Tells (said, end, beats, cells) of a program on a mill."""
    check_program(program)
    check_mill(mill)
    check_cells(cells)
    check_fuel(fuel)
    machine = Machine(mill, cells)
    end = ending(machine, len(program), fuel)
    while end is None:
        machine.do_row(program[machine.at])
        end = ending(machine, len(program), fuel)
    return (machine.said, end, machine.beat, machine.cells)
