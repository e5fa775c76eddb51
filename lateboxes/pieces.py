"""Blocks of programs, and the ties that keep what a piece of plain rows tells."""

from lateboxes.errors import BadPiece
from lateboxes.rows import (
    GOES, JUMP_AT, LEAVES, MOST_ROWS, check_mill, check_program, is_row, lateness, looked_at,
    made_in,
)

MOST_PIECE = 12

# The words of rows that stay in turn, as they meet outside of the boxes.
IN_TURN = (("set", "get"), ("get", "set"), ("set", "set"), ("say", "say"))


def blocks(program):
    """Tells all blocks (begin, end) of a program, rising."""
    check_program(program)
    begins = {0}
    for at, row in enumerate(program):
        if row[0] in GOES:
            begins.add(row[-1])
        if row[0] in LEAVES:
            begins.add(at + 1)
    # Behind the last row nothing begins.
    begins.discard(len(program))
    rising = sorted(begins)
    return list(zip(rising, rising[1:] + [len(program)]))


def check_piece(piece):
    """Refuses what is no piece."""
    if not 1 <= len(piece) <= MOST_PIECE:
        raise BadPiece("a piece has one to twelve rows")
    if not all([is_row(row, MOST_ROWS) for row in piece]):
        raise BadPiece("a row of the piece can't be")
    if any([row[0] in LEAVES for row in piece[:-1]]):
        raise BadPiece("a go, an if or a stop is the last row of a piece")


def ties(piece, mill):
    """Tells all ties (one, other, far) of a piece, ascending."""
    check_piece(piece)
    check_mill(mill)
    return ties_of(piece, mill)


def ties_of(rows, mill):
    """All ties (one, other, far) of rows that are as a piece's are, ascending."""
    found = []
    for one, row in enumerate(rows):
        for other in range(one + 1, len(rows)):
            far = far_behind(row, rows[other], mill)
            if far is not None:
                found.append((one, other, far))
    return found


def far_behind(one, other, mill):
    """How far behind one row a later one may begin at the earliest, or None without a tie."""
    late = lateness(one, mill)
    fars = []
    if made_in(one) in looked_at(other):
        fars.append(late + 1)
    if made_in(other) in looked_at(one):
        fars.append(1)
    if made_in(one) is not None and made_in(one) == made_in(other):
        fars.append(max(1, late - lateness(other, mill) + 1))
    if (one[0], other[0]) in IN_TURN or other[0] == "stop":
        fars.append(1)
    if other[0] in GOES:
        fars.append(late - mill[JUMP_AT])
    return max(fars, default=None)


def kept(piece, mill, starts):
    """Tells how many beats a piece takes by starts, or None if they can't be or break a tie."""
    check_piece(piece)
    check_mill(mill)
    if len(starts) != len(piece) or len(set(starts)) != len(starts) or min(starts) < 0:
        return None
    for one, other, far in ties_of(piece, mill):
        if starts[other] - starts[one] < far:
            return None
    return beats_of(piece, mill, starts)


def beats_of(rows, mill, starts):
    """How many beats rows take by starts that are kept."""
    # As ties are kept, no row outlasts a going, nor begins behind a stop.
    return max([beat + tail for beat, tail in zip(starts, tails_of(rows, mill))]) + 1


def tails_of(rows, mill):
    """Of each row how many beats behind its own the piece takes on its account, at the least."""
    if rows[-1][0] == "stop":
        return [0] * len(rows)
    return [mill[JUMP_AT] if row[0] in GOES else lateness(row, mill) for row in rows]


def starts_in_turn(rows, mill):
    """The starts of rows, each as soon as its ties let, and behind the row ahead of it."""
    starts = []
    ties_there = ties_of(rows, mill)
    for at in range(len(rows)):
        beats = [starts[one] + far for one, other, far in ties_there if other == at]
        if at > 0:
            beats.append(starts[at - 1] + 1)
        starts.append(max(beats, default=0))
    return starts
