"""Whether some row of a program may look too early, by all ways."""

from lateboxes.errors import TooMany
from lateboxes.rows import (
    BOXES, GOES, JUMP_AT, LEAVES, check_mill, check_program, lateness, looked_at, made_in,
)

MOST_STATES = 250

# A state is (row, going, waits). A going is (its row, in how many beats that one is done),
# and waits tell of each box in how many beats its last worth is there.
NO_GOING = (-1, 0)


def look(program, mill):
    """Tells None, or (way, why, box) of the first row that breaks."""
    check_program(program)
    check_mill(mill)
    first = (0, NO_GOING, (0,) * BOXES)
    came = {first: None}
    states = [first]
    while states:
        # All states that are met in as many beats count, also those behind one that breaks.
        if len(came) > MOST_STATES:
            raise TooMany("more than 250 states are met")
        for state in states:
            flaw = broken(program, mill, state)
            if flaw is not None:
                return (way_to(came, state), flaw[0], flaw[1])
        states = met_next(program, mill, states, came)
    return None


def met_next(program, mill, states, came):
    """The states not met before that come behind these, each entered in came.

    As the given states are in the order of their first ways, so are those told: a state
    is entered by the first of its shortest ways.
    """
    met = []
    for state in states:
        waits = waits_behind(program[state[0]], mill, state[2])
        for went, (at, going) in places_behind(program, mill, state):
            fresh = (at, going, waits)
            if at < len(program) and fresh not in came:
                came[fresh] = (state, went)
                met.append(fresh)
    return met


def way_to(came, state):
    """The way by which a state was met, its own row last."""
    way = [(state[0], 0)]
    while came[state] is not None:
        state, went = came[state]
        way.append((state[0], went))
    return way[::-1]


def broken(program, mill, state):
    """How the row of a state breaks, (why, box), or None."""
    at, _, waits = state
    row = program[at]
    for box in looked_at(row):
        if waits[box] > 0:
            return ("early", box)
    box = made_in(row)
    if box is not None and lateness(row, mill) + 1 <= waits[box]:
        return ("over", box)
    if jumps_badly(program, mill, state):
        return ("jump", -1)
    return None


def jumps_badly(program, mill, state):
    """Whether a row comes in the way of a going, or leaves the program ahead of it."""
    at, going, _ = state
    if going != NO_GOING and program[at][0] in LEAVES:
        return True
    for _, (to, under_way) in places_behind(program, mill, state):
        if to == len(program) and under_way != NO_GOING:
            return True
    return False


def places_behind(program, mill, state):
    """All (went, (row, going)) behind a state, rising; the row may be behind the last one."""
    at, going, _ = state
    row = program[at]
    places = []
    if row[0] not in ("go", "stop"):
        places.append((0, place_behind(at, going)))
    if row[0] in GOES:
        # A going counts from the beat of its own row, as one that is under way does.
        places.append((1, place_behind(at, (row[-1], mill[JUMP_AT] + 1))))
    return places


def place_behind(at, going):
    """The (row, going) of the next beat."""
    to, left = going
    if left == 1:
        return (to, NO_GOING)
    if left == 0:
        return (at + 1, NO_GOING)
    return (at + 1, (to, left - 1))


def waits_behind(row, mill, waits):
    """The waits in the beat behind a row that doesn't break."""
    left = [max(0, wait - 1) for wait in waits]
    box = made_in(row)
    if box is not None:
        left[box] = lateness(row, mill)
    return tuple(left)
