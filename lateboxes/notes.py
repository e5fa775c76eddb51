"""Programs as texts."""

from lateboxes.errors import BadText
from lateboxes.rows import check_program, first_flaw

MOST_FIGURES = 3


def written(program):
    """Tells the text of a program."""
    check_program(program)
    return "\n".join([" ".join([str(x) for x in row]) for row in program])


def read(text):
    """Tells the program of a text."""
    rows = tuple([row_of(line) for line in text.split("\n")])
    # A line is held against a program of as many rows, even where none has so many.
    flaw = first_flaw(rows, len(rows))
    if flaw is not None:
        raise BadText(flaw)
    return rows


def row_of(line):
    """What a line tells, with texts where numbers can't be read."""
    words = line.split(" ")
    return (words[0],) + tuple([read_word(word) for word in words[1:]])


def read_word(word):
    """The number that a word writes, or the word."""
    if not word.isdigit() or len(word) > MOST_FIGURES:
        return word
    # Each number is written in one way only.
    if word[0] == "0" and word != "0":
        return word
    return int(word)
