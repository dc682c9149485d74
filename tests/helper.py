"""What several test files need: a test case that runs deeds by all runs, and made-up programs."""

import unittest

from whokeeps.machines import Machine, run_by
from whokeeps.plain import Plain, run

NAMES = "pqrstuvw"
MACHINES = ((1, [0]), (1, [30]), (2, [1]), (3, [0, 2, 7]), (8, [3, 0, 0, 1, 30, 2, 5, 4]), (8, [0]))


def thing(number):
    return ("thing", number)


def machines():
    """New machines of several young rooms and steps."""
    return [Machine(young, steps) for young, steps in MACHINES]


def done(machine, *deeds):
    """The machine, or plain heap, when it has done these deeds."""
    for deed in deeds:
        machine.do(deed)
    return machine


def state(machine):
    """All that a machine tells without a deed."""
    return (machine.young(), machine.old(), machine.listed(), machine.places(), machine.went(),
            machine.word(), machine.colours(), machine.photo())


class Numbers:
    """A row of numbers that looks mixed and is the same each time."""

    def __init__(self, seed):
        self.state = seed * 2654435761 + 12345

    def below(self, many):
        self.state = (self.state * 6364136223846793005 + 1442695040888963407) % 2 ** 64
        return (self.state >> 33) % many

    def one_of(self, choices):
        return choices[self.below(len(choices))]


WORDS = ("make " * 6 + "put " * 8 + "copy copy take take take drop drop drop num cut cut "
         + "watch watch last last ask ask settle say").split()
PARTS = ("a", "b", "c", "d", 0, 1, 2, 3, 9)


def likely_part(numbers, photo, name, held):
    """A part, mostly one of what the name holds; one that is there if it must be held."""
    value = photo[0][NAMES.index(name)]
    for number, kind, parts, _ in photo[1]:
        if value == thing(number) and kind != "watch" and numbers.below(8) > 0:
            there = [part for part, _ in parts]
            holding = [part for part, value in parts if isinstance(value, tuple)]
            if held and there:
                return numbers.one_of(holding or there)
            return {"record": numbers.one_of("abcd"), "row": len(there), "book": numbers.below(10)}[kind]
    return numbers.one_of(PARTS)


def mixed_deed(numbers, names, photo):
    """A deed, mostly one that can be done."""
    word = numbers.one_of(WORDS)
    things = [name for name in names if isinstance(photo[0][NAMES.index(name)], tuple)]
    watches = [thing(row[0]) for row in photo[1] if row[1] == "watch"]
    watching = [name for name in things if photo[0][NAMES.index(name)] in watches]
    name, other = numbers.one_of(names), numbers.one_of(things or names)
    if word in ("put", "cut", "last") and numbers.below(8) > 0:
        name = numbers.one_of(things or names)
    if word == "ask" and numbers.below(8) > 0:
        other = numbers.one_of(watching or names)
    holder = other if word == "take" else name
    part = likely_part(numbers, photo, holder, word != "put" or numbers.below(3) == 0)
    return {
        "make": ("make", name, numbers.one_of(("record", "row", "book"))),
        "num": ("num", name, numbers.below(100)),
        "put": ("put", name, part, other),
        "take": ("take", name, other, part),
        "cut": ("cut", name, part),
        "last": ("last", name, numbers.one_of((None, None, *names))),
        "copy": ("copy", name, other),
        "watch": ("watch", name, other),
        "ask": ("ask", name, other),
        "drop": ("drop", name),
        "say": ("say", name),
        "settle": ("settle",),
    }[word]


def mixed_program(seed, many=120):
    """A program of so many deeds; few names make it change more of what it made."""
    numbers = Numbers(seed)
    names = NAMES[:3 + seed % 6]
    plain, program = Plain(), []
    for _ in range(many):
        program.append(mixed_deed(numbers, names, plain.photo()))
        plain.do(program[-1])
    return program


def rows_photo(names, links):
    """A photo of rows alone: which thing a name holds, and which ones each row holds, by rising places."""
    things = []
    for number in sorted(links):
        parts = [(place, thing(held)) for place, held in enumerate(links[number])]
        things.append((number, "row", parts, 1 + len(parts)))
    return ([thing(names[name]) if name in names else None for name in NAMES], things)


def mixed_photos(many):
    """Photos of plain heaps behind mixed programs of several lengths."""
    return [done(Plain(), *mixed_program(seed, 20 + 10 * (seed % 11))).photo() for seed in range(many)]


def mixed_rows_photo(seed):
    """A photo of few rows that hold one another in many ways, rings among them; all are in reach."""
    numbers = Numbers(seed)
    many = 1 + numbers.below(12)
    links = {number: [numbers.below(many) for _ in range(numbers.below(4))] for number in range(many)}
    names = {name: numbers.below(many) for name in NAMES if numbers.below(8) == 0}
    names["s"] = 0
    reach = come_to(rows_photo(names, links), None)
    return rows_photo(names, {number: links[number] for number in reach})


def come_to(photo, without):
    """The numbers of all that can be come to by ways without a thing, found by going over all until no more come."""
    found, before = {value[1] for value in photo[0] if isinstance(value, tuple)} - {without}, None
    while found != before:
        before = set(found)
        for number, kind, parts, _ in photo[1]:
            if number in found and kind != "watch":
                found |= {value[1] for _, value in parts if isinstance(value, tuple)} - {without}
    return found


class Case(unittest.TestCase):
    """A test case that compares what deeds tell."""

    def tells(self, *rows):
        """Each row is a deed and what it tells, on a plain heap and on machines."""
        deeds, told = [row[0] for row in rows], [row[1] for row in rows]
        self.same(run(deeds), told)
        for young, steps in MACHINES:
            self.same(run_by(deeds, young, steps), told)
        heap = Plain()
        others = machines()
        for deed, wanted in rows:
            before = (heap.reach(), heap.kept(), heap.photo())
            self.same(heap.do(deed), wanted)
            if wanted == "no":
                self.assertEqual((heap.reach(), heap.kept(), heap.photo()), before)
            for machine in others:
                self.same(machine.do(deed), wanted)
                self.assertEqual(machine.photo(), heap.photo())

    def same(self, told, wanted):
        """Equal, and of the same kinds: 0 is not False."""
        self.assertEqual(told, wanted)
        self.assertEqual(repr(told), repr(wanted))

    def refused(self, error, doing, *given):
        """The error with which this is refused."""
        with self.assertRaises(error) as caught:
            doing(*given)
        self.assertIs(caught.exception.__class__, error)
        return caught.exception
