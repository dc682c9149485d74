"""What is a deed, and what is a program."""

from whokeeps.errors import BadProgram
from whokeeps.things import KINDS, LETTERS

NAMES = ("p", "q", "r", "s", "t", "u", "v", "w")
MOST_DEEDS = 120
MOST_NUMBER = 99
MOST_PART = 9

SHAPES = {
    "make": ("name", "kind"),
    "num": ("name", "number"),
    "copy": ("name", "name"),
    "drop": ("name",),
    "put": ("name", "part", "name"),
    "take": ("name", "name", "part"),
    "cut": ("name", "part"),
    "watch": ("name", "name"),
    "last": ("name", "goal"),
    "ask": ("name", "name"),
    "settle": (),
    "say": ("name",),
}


def is_within(number, least, most):
    """Whether this is a whole number within these bounds; True and False are none."""
    if not isinstance(number, int) or isinstance(number, bool):
        return False
    return least <= number <= most


def is_word_of(shape, word):
    """Whether a deed may have this word where its shape says name, kind, number, part or goal."""
    if shape == "name":
        return word in NAMES
    if shape == "goal":
        return word is None or word in NAMES
    if shape == "kind":
        return word in KINDS
    if shape == "number":
        return is_within(word, 0, MOST_NUMBER)
    return word in LETTERS or is_within(word, 0, MOST_PART)


def is_deed(deed):
    """Whether this is a deed, be it one that can be done or not."""
    if not isinstance(deed, tuple) or not deed:
        return False
    word, *parts = deed
    if not isinstance(word, str) or word not in SHAPES:
        return False
    shapes = SHAPES[word]
    if len(parts) != len(shapes):
        return False
    return all([is_word_of(shape, part) for shape, part in zip(shapes, parts)])


def check_program(program):
    """Refuses a program at its first deed that is none, or that is one too many."""
    for place, deed in enumerate(program):
        if place == MOST_DEEDS or not is_deed(deed):
            raise BadProgram(place)
