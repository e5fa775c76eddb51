"""The document's words told anew, slowly and without the package, to test it against.

Runs keep all worths that ever came with the beats they come in, and looks go each way by
itself, so neither shares a thought with the program.
"""

LATE = {"put": 0, "move": 0, "add": 0, "take": 0, "get": 1, "times": 2}


def boxes_of(row):
    """(the boxes that a row looks at, the box of its worth or None)."""
    word = row[0]
    if word == "put":
        return [], row[1]
    if word in ("move", "get"):
        return [row[2]], row[1]
    if word in ("add", "take", "times"):
        return [row[2], row[3]], row[1]
    if word == "set":
        return [row[1], row[2]], None
    if word in ("say", "if"):
        return [row[1]], None
    return [], None


def slow_run(program, mill, cells, fuel):
    """What run tells, with all that ever came kept."""
    worths = []
    stores = []
    jumps = []
    said = []
    at = 0

    def held(box, beat):
        there = [(since, done, worth) for since, done, to, worth in worths
                 if to == box and since <= beat]
        return max(there)[2] if there else 0

    def stored(cell, beat):
        there = [(since, worth) for since, to, worth in stores
                 if to == cell and since <= beat]
        return max(there)[1] if there else cells[cell]

    def told(end, beat):
        return said, end, beat, [stored(cell, beat) for cell in range(16)]

    for beat in range(fuel + 1):
        for since, to in jumps:
            if since == beat:
                at = to
        if at == len(program):
            return told("end", beat)
        if beat == fuel:
            return told("long", beat)
        row = program[at]
        looked, made = boxes_of(row)
        seen = [held(box, beat) for box in looked]
        word = row[0]
        if made is not None:
            worth = {
                "put": lambda: row[2],
                "move": lambda: seen[0],
                "add": lambda: (seen[0] + seen[1]) % 1000,
                "take": lambda: (seen[0] + 1000 - seen[1]) % 1000,
                "times": lambda: (seen[0] * seen[1]) % 1000,
                "get": lambda: stored(seen[0] % 16, beat),
            }[word]()
            worths.append((beat + mill[LATE[word]] + 1, beat, made, worth))
        if word == "set":
            stores.append((beat + 1, seen[0] % 16, seen[1]))
        if word == "say":
            said.append(seen[0])
        if word == "go" or word == "if" and seen[0]:
            jumps.append((beat + mill[3] + 1, row[-1]))
        if word == "stop":
            return told("stop", beat + 1)
        at += 1
    raise AssertionError("a run ends by its fuel")


def goes_of(row):
    """What went may be of a row that doesn't break."""
    return {"go": (1,), "if": (0, 1), "stop": ()}.get(row[0], (0,))


def behind(at, beat, goings):
    """The row of the next beat."""
    for to, when in goings:
        if when == beat + 1:
            return to
    return at + 1


def slow_break(program, mill, at, beat, worths, goings):
    """(why, box) of the row done in this beat, or None."""
    row = program[at]
    looked, made = boxes_of(row)
    for box in looked:
        if any(to == box and there > beat for to, there in worths):
            return "early", box
    if made is not None:
        mine = beat + mill[LATE[row[0]]] + 1
        if any(to == made and there > beat and mine <= there for to, there in worths):
            return "over", made
    if row[0] in ("go", "if", "stop") and any(when > beat for to, when in goings):
        return "jump", -1
    for went in goes_of(row):
        later = goings + [(row[-1], beat + mill[3] + 1)] * went
        under_way = any(when > beat + 1 for to, when in later)
        if behind(at, beat, later) == len(program) and under_way:
            return "jump", -1
    return None


def state_of(at, beat, worths, goings):
    """A state as point 7 tells it."""
    waits = tuple(max([0] + [there - beat for to, there in worths if to == box])
                  for box in range(8))
    return at, tuple((to, when - beat) for to, when in goings if when > beat), waits


def ways_behind(program, mill, beat, way):
    """All ways that go on behind a way whose row doesn't break."""
    pairs, at, worths, goings = way
    row = program[at]
    made = boxes_of(row)[1]
    sent = [] if made is None else [(made, beat + mill[LATE[row[0]]] + 1)]
    for went in goes_of(row):
        later = goings + [(row[-1], beat + mill[3] + 1)] * went
        to = behind(at, beat, later)
        if to < len(program):
            yield pairs + [(at, went)], to, worths + sent, later


def slow_look(program, mill, depth=1000, merge=False):
    """((way, why, box) or None, how many states are met), by so many rows at the most.

    Each way is gone by itself (None where there are too many); or of the ways that meet a
    state in one beat the first alone, and none where it has been met.
    """
    ways = [([], 0, [], [])]
    met = set()
    for beat in range(depth):
        met |= {state_of(way[1], beat, way[2], way[3]) for way in ways}
        found = []
        longer = []
        for way in ways:
            flaw = slow_break(program, mill, way[1], beat, way[2], way[3])
            if flaw is not None:
                found.append((way[0] + [(way[1], 0)],) + flaw)
            else:
                longer += ways_behind(program, mill, beat, way)
        if found:
            return min(found), len(met)
        if merge:
            first = {}
            for way in sorted(longer, reverse=True):
                first[state_of(way[1], beat + 1, way[2], way[3])] = way
            longer = [first[state] for state in first if state not in met]
        if len(longer) > 2000:
            return None
        ways = longer
    return None, len(met)


def random_row(chance, many):
    """Some row of a program of so many rows, with few boxes, so that rows meet."""
    word = chance.choice([
        "put", "put", "move", "add", "take", "times", "get", "get", "set", "say", "say",
        "rest", "rest", "go", "if", "if", "stop",
    ])
    looked = {"put": 0, "move": 1, "get": 1, "add": 2, "take": 2, "times": 2,
              "set": 2, "say": 1, "if": 1}.get(word, 0)
    row = (word,)
    if word in LATE:
        row += (chance.randrange(4),)
    row += tuple(chance.randrange(4) for _ in range(looked))
    if word == "put":
        row += (chance.choice([0, 1, 2, 17, 500, 999]),)
    if word in ("go", "if"):
        row += (chance.randrange(many),)
    return row


def random_program(chance, most):
    """Some program of at most so many rows."""
    many = chance.randint(1, most)
    return tuple(random_row(chance, many) for _ in range(many))


def wide_program(chance, many):
    """Some program in which little breaks, so that many states are met."""
    rows = []
    for at in range(many):
        ahead = min(many - 1, at + chance.randint(2, 4))
        rows.append(chance.choice([
            ("get", chance.randint(4, 6), 0), ("get", chance.randint(4, 6), 0),
            ("times", chance.randint(4, 6), 0, 0), ("rest",), ("rest",), ("rest",),
            ("if", 0, ahead), ("go", ahead) if at % 5 == 0 else ("say", 0),
            ("say", 4) if at % 30 == 29 else ("if", 0, ahead),
        ]))
    return tuple(rows)


def random_mill(chance):
    """Some mill."""
    return tuple(chance.randint(0, most) for most in (2, 4, 4, 3))
