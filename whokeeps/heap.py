"""The names and the things, and who comes to whom."""

from whokeeps.deeds import NAMES
from whokeeps.things import Watch, as_value, is_thing


class Heap:
    """All names and things; it lets nothing go by itself."""

    def __init__(self):
        self.names = {name: None for name in NAMES}
        self.things = {}
        self.made = 0
        # Of the deed done last: (holder, value lost, value gained), or None where no part changed.
        self.change = None

    def thing_of(self, name):
        """The thing that a name holds, or None."""
        value = self.names[name]
        if is_thing(value):
            return self.things[value[1]]
        return None

    def bring(self, name, thing):
        """Takes in a new thing, for a name; tells it."""
        self.things[thing.number] = thing
        self.made += 1
        value = as_value(thing.number)
        self.names[name] = value
        return value

    def forget(self, number):
        """Takes a thing out of the heap, for ever."""
        del self.things[number]

    def store(self, thing, part, value):
        """Puts a value to a part that fits."""
        lost = thing.at(part) if thing.has(part) else None
        thing.put(part, value)
        self.change = (thing.number, lost, value)

    def strike(self, thing, part):
        """Cuts out a part that is there."""
        self.change = (thing.number, thing.at(part), None)
        thing.cut(part)

    def named(self):
        """The numbers of the things that names hold."""
        return [value[1] for value in self.names.values() if is_thing(value)]

    def due_ones(self):
        """The numbers, rising, of the things whose last deed is due."""
        return [number for number in sorted(self.things) if self.things[number].due]

    def spread(self, starts, among):
        """Those among the given ones that are starts, or are come to from such by parts within them."""
        found = {}
        waiting = list(starts)
        while waiting:
            number = waiting.pop()
            if number in among and number not in found:
                found[number] = True
                waiting.extend(self.things[number].held())
        return found

    def reach(self):
        """A dict of the numbers of all things in reach."""
        return self.spread(self.named(), self.things)

    def kept(self):
        """A dict of the numbers of all kept things."""
        return self.spread(self.named() + self.due_ones(), self.things)

    def tell_watches(self):
        """Makes each watch blind that sees a thing out of reach."""
        reach = self.reach()
        for thing in self.things.values():
            if isinstance(thing, Watch) and thing.sees is not None and thing.sees[1] not in reach:
                thing.sees = None

    def perform_last(self, number):
        """Does the last deed that is due of a thing."""
        thing = self.things[number]
        thing.due = False
        if thing.goal is not None:
            self.names[thing.goal] = as_value(number)

    def photo(self):
        """What the names hold, and all things in reach."""
        names = [self.names[name] for name in NAMES]
        return (names, [snapshot(self.things[number]) for number in sorted(self.reach())])


def snapshot(thing):
    """A thing as a photo shows it."""
    return (thing.number, thing.kind, thing.shown(), thing.size())
