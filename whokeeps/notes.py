"""Programs as texts, with a deed in each row."""

from whokeeps.deeds import MOST_NUMBER, SHAPES, check_program
from whokeeps.errors import BadProgram, BadText

NO_GOAL = "-"


def row_of(deed):
    """A deed as its row."""
    return " ".join([NO_GOAL if part is None else str(part) for part in deed])


def written(program):
    """A program as a text."""
    check_program(program)
    return "\n".join([row_of(deed) for deed in program])


def number_of(word):
    """The number that a word writes without needless figures; else the word as it is."""
    figures = [str(number) for number in range(MOST_NUMBER + 1)]
    if word in figures:
        return figures.index(word)
    return word


def part_of(shape, word):
    """What a word means where a deed's shape says name, kind, number, part or goal."""
    if shape == "goal" and word == NO_GOAL:
        return None
    if shape in ("number", "part"):
        return number_of(word)
    return word


def deed_of(row):
    """The deed that a row writes, or a tuple that is none."""
    word, *parts = row.split(" ")
    shapes = SHAPES.get(word, ())
    if len(parts) != len(shapes):
        return (word, *parts)
    return (word, *[part_of(shape, part) for shape, part in zip(shapes, parts)])


def read(text):
    """The program that a text writes."""
    rows = text.split("\n") if text else []
    program = [deed_of(row) for row in rows]
    try:
        check_program(program)
    except BadProgram as found:
        raise BadText(found.place) from None
    return program
