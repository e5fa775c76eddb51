"""The fewest beats that a piece takes, and papers that show them."""

from lateboxes.errors import TooMany
from lateboxes.pieces import beats_of, check_piece, starts_in_turn, tails_of, ties_of
from lateboxes.rows import check_mill, is_whole

MOST_LEAST = 6


def least(piece, mill):
    """Tells (beats, starts, paper): the fewest, and what shows them."""
    check_piece(piece)
    check_mill(mill)
    if len(piece) > MOST_LEAST:
        raise TooMany("a piece of more than six rows")
    return fewest_of(piece, mill)


def shows(piece, mill, many, paper):
    """Tells whether a paper shows that no starts take fewer than so many beats."""
    check_piece(piece)
    check_mill(mill)
    tails = tails_of(piece, mill)
    # Parts that are still to be judged, each with the ties that it may go by.
    parts = [(paper, far_apart(piece, mill))]
    while parts:
        part, fars = parts.pop()
        if is_split(part, len(piece)):
            _, one, other, first, second = part
            parts.append((second, put_in_turn(fars, other, one)))
            parts.append((first, put_in_turn(fars, one, other)))
        elif not shows_at_once(part, tails, fars, many):
            return False
    return True


def far_apart(rows, mill):
    """The ties of rows as a dict, from (one, other) to far."""
    return {(one, other): far for one, other, far in ties_of(rows, mill)}


def put_in_turn(fars, one, other):
    """The ties with a tie more, of 1, by which one row is ahead of another."""
    more = {pair: fars[pair] for pair in fars}
    more[(one, other)] = max(1, fars.get((one, other), 1))
    return more


def is_split(paper, many):
    """Whether a paper has the form of a split of a piece of so many rows."""
    if not isinstance(paper, tuple) or len(paper) != 5 or paper[0] != "split":
        return False
    one, other = paper[1:3]
    return is_whole(one, many - 1) and is_whole(other, many - 1) and one != other


def shows_at_once(paper, tails, fars, many):
    """Whether a paper is a way or a ring that shows so many beats by these ties."""
    if not isinstance(paper, tuple) or len(paper) != 2:
        return False
    word, rows = paper
    beats = beats_along(rows, len(tails), fars)
    if beats is None:
        return False
    if word == "way":
        return beats + tails[rows[-1]] + 1 >= many
    return word == "ring" and rows[0] == rows[-1] and beats >= 1


def beats_along(rows, many, fars):
    """What the ties along rows come to, or None if these are no way in a piece of so many."""
    if not isinstance(rows, tuple) or not rows:
        return None
    if not all([is_whole(at, many - 1) for at in rows]):
        return None
    pairs = list(zip(rows, rows[1:]))
    if not all([pair in fars for pair in pairs]):
        return None
    return sum([fars[pair] for pair in pairs])


def fewest_of(rows, mill):
    """(beats, starts, paper) of rows that are as a piece's are."""
    tails = tails_of(rows, mill)
    fars = far_apart(rows, mill)
    starts = starts_in_turn(rows, mill)
    while True:
        beats = beats_of(rows, mill, starts)
        fewer, paper = fewer_than(beats, tails, fars)
        if fewer is None:
            return (beats, starts, paper)
        starts = fewer


def fewer_than(many, tails, fars):
    """(starts, None) of some that take fewer beats, or (None, a paper) that shows there are none."""
    ways, ring = longest_ways(len(tails), fars)
    if ring is not None:
        return (None, ("ring", ring))
    for (beats, rows), tail in zip(ways, tails):
        if beats + tail + 1 >= many:
            return (None, ("way", rows))
    starts = [beats for beats, _ in ways]
    pair = first_alike(starts)
    if pair is None:
        return (starts, None)
    one, other = pair
    fewer, first = fewer_than(many, tails, put_in_turn(fars, one, other))
    if fewer is not None:
        return (fewer, None)
    fewer, second = fewer_than(many, tails, put_in_turn(fars, other, one))
    if fewer is not None:
        return (fewer, None)
    return (None, ("split", one, other, first, second))


def first_alike(starts):
    """Two rows that begin in one beat, or None."""
    for other, beat in enumerate(starts):
        if beat in starts[:other]:
            return (starts.index(beat), other)
    return None


def longest_ways(many, fars):
    """(the longest way (beats, rows) to each row, None), or (ways, a ring of 1 or more)."""
    ways = [(0, (at,)) for at in range(many)]
    longer = True
    while longer:
        longer = False
        for (one, other), far in fars.items():
            beats, rows = ways[one]
            if beats + far > ways[other][0]:
                # The way to a row only gets longer, so what comes back to it has come to more.
                if other in rows:
                    return (ways, rows[rows.index(other):] + (other,))
                ways[other] = (beats + far, rows + (other,))
                longer = True
    return (ways, None)
