"""Plain programs fitted to a mill by rests, and packed into the fewest beats."""

from lateboxes.errors import TooMany
from lateboxes.fewest import MOST_LEAST, fewest_of
from lateboxes.pieces import beats_of, blocks, starts_in_turn
from lateboxes.rows import GOES, check_mill, check_program

MOST_FITTED = 40
REST = ("rest",)


def fitted(program, mill):
    """Tells a program that says on the mill what the given one says plainly."""
    check_fitting(program, mill)
    busy = busy_rows(program)
    return joined(program, mill, busy, [starts_in_turn(rows, mill) for rows in busy])


def packed(program, mill):
    """Tells a program as fitted does, but each of its blocks takes the fewest beats."""
    check_fitting(program, mill)
    busy = busy_rows(program)
    if any([len(rows) > MOST_LEAST for rows in busy]):
        raise TooMany("a block of more than six rows but rests")
    starts = [fewest_of(rows, mill)[1] if rows else [] for rows in busy]
    return joined(program, mill, busy, starts)


def check_fitting(program, mill):
    """Refuses what can't be fitted."""
    check_program(program)
    check_mill(mill)
    if len(program) > MOST_FITTED:
        raise TooMany("a program of more than forty rows")


def busy_rows(program):
    """The rows but rests of each block, as pieces that may be empty or long."""
    return [
        tuple([row for row in program[begin:end] if row != REST])
        for begin, end in blocks(program)
    ]


def joined(program, mill, busy, starts):
    """The program whose blocks in turn have their busy rows at these starts."""
    rows = []
    begins = {}
    for (begin, _), block, beats in zip(blocks(program), busy, starts):
        # A block without rows begins where the next one does, or behind all.
        begins[begin] = len(rows)
        rows.extend(laid_out(block, mill, beats))
    rows = [sent_on(row, begins) for row in rows]
    if not rows or len(rows) in [row[-1] for row in rows if row[0] in GOES]:
        rows.append(REST)
    return tuple(rows)


def laid_out(rows, mill, starts):
    """Rows at their starts, with rests in all other beats that they take."""
    if not rows:
        return []
    laid = [REST] * beats_of(rows, mill, starts)
    for row, beat in zip(rows, starts):
        laid[beat] = row
    return laid


def sent_on(row, begins):
    """A row that goes to where the begin that it went to is now."""
    return row[:-1] + (begins[row[-1]],) if row[0] in GOES else row
