"""What the document says of pieces, papers and fitted rows told anew, slowly.

The fewest beats are found by going through all orders, and papers are judged with lists of
the ties that they may go by, as the document's words go.
"""

from itertools import permutations

from slow import LATE, boxes_of, random_row

GOES = ("go", "if")


def late_of(row, mill):
    return mill[LATE[row[0]]] if row[0] in LATE else 0


def slow_blocks(program):
    begins = [at for at in range(len(program))
              if at == 0
              or any(row[0] in GOES and row[-1] == at for row in program)
              or program[at - 1][0] in ("go", "if", "stop")]
    return [(begin, min([later for later in begins if later > begin], default=len(program)))
            for begin in begins]


def slow_ties(rows, mill):
    found = []
    for at, one in enumerate(rows):
        for to, other in enumerate(rows):
            if to <= at:
                continue
            fars = []
            looked, made = boxes_of(one)
            looked_then, made_then = boxes_of(other)
            late = late_of(one, mill)
            if made is not None and made in looked_then:
                fars += [late + 1]
            if made is not None and made == made_then:
                fars += [late - late_of(other, mill) + 1, 1]
                fars.remove(min(fars[-2:]))
            if made_then is not None and made_then in looked:
                fars += [1]
            words = sorted([one[0], other[0]])
            if words in (["get", "set"], ["set", "set"], ["say", "say"]):
                fars += [1]
            if other[0] == "go" or other[0] == "if":
                fars += [late - mill[3]]
            if other[0] == "stop":
                fars += [1]
            if fars:
                found += [(at, to, sorted(fars)[-1])]
    return found


def slow_kept(rows, mill, starts):
    if len(starts) != len(rows):
        return None
    for at, beat in enumerate(starts):
        if beat < 0 or beat in starts[:at]:
            return None
    for one, other, far in slow_ties(rows, mill):
        if starts[other] < starts[one] + far:
            return None
    if rows[-1][0] in GOES:
        return starts[-1] + mill[3] + 1
    if rows[-1][0] == "stop":
        return starts[-1] + 1
    return max(beat + late_of(row, mill) for beat, row in zip(starts, rows)) + 1


def earliest(rows, mill, order):
    """The earliest starts by which rows begin in this order, or None if there are none."""
    needs = [(one, other, 1) for one, other in zip(order, order[1:])]
    needs += slow_ties(rows, mill)
    starts = [0] * len(rows)
    while max(starts) < 100:
        before = list(starts)
        for one, other, far in needs:
            starts[other] = max(starts[other], starts[one] + far)
        if starts == before:
            return starts
    return None


def slow_least(rows, mill):
    """The fewest beats, by all orders."""
    found = [earliest(rows, mill, order) for order in permutations(range(len(rows)))]
    return min(slow_kept(rows, mill, starts) for starts in found if starts is not None)


def slow_shows(rows, mill, many, paper, more=()):
    """Whether a paper shows it, by the piece's ties and these pairs put in turn."""
    all_ties = slow_ties(rows, mill) + [pair + (1,) for pair in more]

    def row_number(x):
        return type(x) is int and 0 <= x < len(rows)

    def along(numbers):
        total = 0
        for pair in zip(numbers, numbers[1:]):
            fars = [far for one, other, far in all_ties if (one, other) == pair]
            if not fars:
                return None
            total += max(fars)
        return total

    def behind(at):
        if rows[-1][0] == "stop":
            return 0
        return mill[3] if rows[at][0] in GOES else late_of(rows[at], mill)

    if type(paper) is not tuple:
        return False
    if len(paper) == 5 and paper[0] == "split":
        one, other = paper[1], paper[2]
        if not row_number(one) or not row_number(other) or one == other:
            return False
        return (slow_shows(rows, mill, many, paper[3], more + ((one, other),))
                and slow_shows(rows, mill, many, paper[4], more + ((other, one),)))
    if len(paper) != 2 or paper[0] not in ("way", "ring"):
        return False
    numbers = paper[1]
    if type(numbers) is not tuple or numbers == () or not all(map(row_number, numbers)):
        return False
    total = along(numbers)
    if total is None:
        return False
    if paper[0] == "ring":
        return len(numbers) > 1 and numbers[0] == numbers[-1] and total > 0
    return total + behind(numbers[-1]) + 1 >= many


def slow_fitted(program, mill):
    """What fitted tells, each row put into the first beat that breaks nothing."""
    begins = {}
    beats = {}
    now = 0
    for begin, end in slow_blocks(program):
        rows = [row for row in program[begin:end] if row[0] != "rest"]
        begins[begin] = now
        starts = []
        for at in range(len(rows)):
            beat = starts[-1] + 1 if starts else 0
            while any(other == at and beat < starts[one] + far
                      for one, other, far in slow_ties(rows, mill)):
                beat += 1
            starts.append(beat)
        beats.update((now + beat, row) for beat, row in zip(starts, rows))
        now += slow_kept(rows, mill, starts) if rows else 0
    if now == 0 or any(row[0] in GOES and begins[row[-1]] == now for row in beats.values()):
        now += 1
    told = [beats.get(beat, ("rest",)) for beat in range(now)]
    return tuple(row[:-1] + (begins[row[-1]],) if row[0] in GOES else row for row in told)


def random_piece(chance, least, most):
    """Some piece of so many rows."""
    many = chance.randint(least, most)
    rows = [random_row(chance, 200) for _ in range(many)]
    for at, row in enumerate(rows[:-1]):
        while row[0] in ("go", "if", "stop"):
            row = random_row(chance, 200)
        rows[at] = row
    if chance.random() < 0.5:
        rows[-1] = chance.choice([("go", 199), ("if", chance.randrange(4), 0), ("stop",)])
    return tuple(rows)


def random_paper(chance, many, deep):
    """Some paper over so many rows, most of them of the right form."""
    kind = chance.random()
    if deep > 0 and kind < 0.5:
        one, other = chance.randrange(many), chance.randrange(many)
        if one == other and chance.random() < 0.9:
            other = (one + 1) % many
        return ("split", one, other,
                random_paper(chance, many, deep - 1), random_paper(chance, many, deep - 1))
    numbers = tuple(sorted(chance.randrange(many) for _ in range(chance.randint(1, 4))))
    if kind > 0.7:
        return ("way", numbers)
    if kind > 0.55:
        return ("ring", numbers + numbers[:1])
    return chance.choice([
        ("way", numbers + (many,)), ("ring", numbers), ("way", ()), ("way", numbers, 0), (),
        ("split", 0, 1, ("way", numbers)), "way", 3, ("way",), ("rest", numbers), (numbers, 0),
        ("way", numbers[::-1]), ("way", numbers[0]), ("way", ("0",)), ("way", (-1,)),
    ])
