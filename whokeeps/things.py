"""Values, and the four kinds of things."""

LETTERS = ("a", "b", "c", "d")
KINDS = ("record", "row", "book")
ROW_MOST = 8
BOOK_MOST = 6
BOOK_KEYS = 10


def as_value(number):
    """The thing of this number, as names and parts hold it and as it is told."""
    return ("thing", number)


def is_thing(value):
    """Whether a value is a thing, not a number or None."""
    return isinstance(value, tuple)


class Thing:
    """What all kinds have: a number, and perhaps a last deed; no parts that could be changed."""

    def __init__(self, number, kind):
        self.number = number
        self.kind = kind
        self.got_last = False
        self.due = False
        self.goal = None

    def has(self, part):
        """Whether this part is there."""
        return False

    def fits(self, part):
        """Whether something can be put to this part, be it there or not."""
        return False

    def held(self):
        """The numbers of the things that its parts hold."""
        return []


class Holder(Thing):
    """A thing whose parts are cells, under letters, places or keys."""

    def __init__(self, number, kind, cells):
        Thing.__init__(self, number, kind)
        self.cells = cells

    def has(self, part):
        return part in self.cells

    def at(self, part):
        """The value of a part that is there."""
        return self.cells[part]

    def put(self, part, value):
        """Gives a value to a part that fits."""
        self.cells[part] = value

    def cut(self, part):
        """Takes out a part that is there."""
        del self.cells[part]

    def held(self):
        return [value[1] for _, value in self.shown() if is_thing(value)]

    def shown(self):
        """The list of (part, value) by rising parts."""
        return [(part, self.cells[part]) for part in sorted(self.cells)]

    def size(self):
        """How much it is, without what it holds."""
        return 1 + len(self.cells)


class Record(Holder):
    """Four parts that are always there."""

    def __init__(self, number):
        Holder.__init__(self, number, "record", {letter: None for letter in LETTERS})

    def fits(self, part):
        return part in self.cells

    def cut(self, part):
        self.cells[part] = None


class Row(Holder):
    """Values side by side, without gaps."""

    def __init__(self, number):
        Holder.__init__(self, number, "row", [])

    def has(self, part):
        return part in range(len(self.cells))

    def fits(self, part):
        return part in range(min(len(self.cells) + 1, ROW_MOST))

    def put(self, part, value):
        if part == len(self.cells):
            self.cells.append(value)
        else:
            self.cells[part] = value

    def shown(self):
        return list(enumerate(self.cells))


class Book(Holder):
    """Entries under keys."""

    def __init__(self, number):
        Holder.__init__(self, number, "book", {})

    def fits(self, part):
        return part in self.cells or (part in range(BOOK_KEYS) and len(self.cells) < BOOK_MOST)

    def size(self):
        return 1 + 2 * len(self.cells)


class Watch(Thing):
    """It sees a thing without holding it."""

    def __init__(self, number, sees):
        Thing.__init__(self, number, "watch")
        self.sees = sees

    def shown(self):
        # Shown like a part, but not among what it holds: to see is not to keep.
        return [("sees", self.sees)]

    def size(self):
        return 2


def new_thing(number, kind):
    """An empty record, row or book."""
    if kind == "record":
        return Record(number)
    if kind == "row":
        return Row(number)
    return Book(number)
