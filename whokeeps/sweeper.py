"""The sweeper of the old room, which goes by single steps."""

from whokeeps.things import is_thing


class Sweeper:
    """Rounds of marking and sweeping; what was kept when a round began doesn't go by it."""

    def __init__(self, heap, rooms):
        self.heap = heap
        self.rooms = rooms
        self.phase = "rest"
        self.paint = {}
        self.doomed = []

    def step(self):
        """Does the next step."""
        if self.phase == "rest":
            self.begin()
        elif self.phase == "mark":
            self.mark()
        else:
            self.sweep()

    def go_to_rest(self):
        """Does steps until it is at rest; none if it is."""
        while self.phase != "rest":
            self.step()

    def begin(self):
        """Begins a round."""
        self.rooms.empty()
        self.paint = {number: "white" for number in self.rooms.spots}
        for number in self.heap.named() + self.heap.due_ones():
            self.paint[number] = "grey"
        self.phase = "mark"

    def painted(self, colour):
        """The numbers, rising, of the old things of one colour."""
        return [number for number in sorted(self.paint) if self.paint[number] == colour]

    def mark(self):
        """Goes on from one grey thing, or ends the marking."""
        greys = self.painted("grey")
        if not greys:
            self.doomed = self.painted("white")
            self.phase = "sweep"
            return
        self.paint[greys[0]] = "black"
        for number in self.heap.things[greys[0]].held():
            self.shade(number)

    def shade(self, number):
        """Makes a white thing grey; young ones have no colour."""
        if self.paint.get(number) == "white":
            self.paint[number] = "grey"

    def sweep(self):
        """Lets one thing go, or ends the round."""
        if not self.doomed:
            self.paint = {}
            self.phase = "rest"
            return
        number = self.doomed.pop(0)
        del self.paint[number]
        self.rooms.let_go(number)

    def admit(self, numbers):
        """Takes note of things that moved to the old room; at rest there are no colours."""
        if self.phase != "rest":
            for number in numbers:
                self.paint[number] = "black"

    def lost(self, value):
        """Takes note of what an old thing held and holds no more."""
        # Else a way to it that was there when the round began could be missed.
        if self.phase == "mark" and is_thing(value):
            self.shade(value[1])
