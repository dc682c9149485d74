"""A photo as the keepers look at it: who comes to whom."""

from whokeeps.deeds import NAMES
from whokeeps.errors import NoThing
from whokeeps.things import is_thing


def holdings(parts):
    """(part as a text, number) of the things that these parts, or names, hold."""
    return [(str(part), value[1]) for part, value in parts if is_thing(value)]


class Picture:
    """Of a photo: what the names hold, what each thing holds, and how much each one is."""

    def __init__(self, photo):
        names, things = photo
        self.entries = holdings(list(zip(NAMES, names)))
        self.links = {}
        self.sizes = {}
        for number, kind, parts, size in things:
            # What a watch sees it doesn't hold, so nobody comes to it by the watch.
            self.links[number] = [] if kind == "watch" else holdings(parts)
            self.sizes[number] = size

    def check_thing(self, number):
        """Refuses what is no thing of the photo."""
        # A dict takes True for 1, but it is no number.
        if isinstance(number, bool) or number not in self.links:
            raise NoThing(f"the photo has no thing {number}")

    def arrivals(self, without):
        """How each thing is come to, by ways without a certain one: (thing ahead of it, part of that one).

        Both are of the first one of its shortest ways; where a name holds it: (None, name).
        """
        found = {}
        waiting = [(None, name, number) for name, number in self.entries]
        # First in, first out, and names and parts rise: so the first to come to a thing has its first shortest way.
        while waiting:
            ahead, part, number = waiting.pop(0)
            if number != without and number not in found:
                found[number] = (ahead, part)
                waiting.extend([(number, onward, held) for onward, held in self.links[number]])
        return found

    def kept_by(self, number):
        """What can't be come to without this thing, rising."""
        free = self.arrivals(number)
        return [other for other in self.links if other not in free]

    def total_of(self, number):
        """How much this thing keeps."""
        return sum([self.sizes[other] for other in self.kept_by(number)])
