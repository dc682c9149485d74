"""The machine, which does what the plain run does and lets things go."""

from whokeeps.acts import act
from whokeeps.deeds import check_program, is_within
from whokeeps.errors import BadSteps, BadYoung
from whokeeps.heap import Heap
from whokeeps.rooms import Rooms
from whokeeps.sweeper import Sweeper

MOST_YOUNG = 8
MOST_STEPS = 8
MOST_AT_ONCE = 30
MAKERS = ("make", "watch")


def check_young(young):
    """Refuses a size that no young room has."""
    if not is_within(young, 1, MOST_YOUNG):
        raise BadYoung("a young room is for 1 to 8 things")


def check_steps(steps):
    """Refuses steps that are none."""
    if not is_within(len(steps), 1, MOST_STEPS):
        raise BadSteps("there are 1 to 8 steps")
    if not all([is_within(many, 0, MOST_AT_ONCE) for many in steps]):
        raise BadSteps("steps are numbers from 0 to 30")


class Machine:
    """A heap with a young room, an old one and a sweeper."""

    def __init__(self, young, steps):
        check_young(young)
        check_steps(steps)
        self.heap = Heap()
        self.rooms = Rooms(self.heap, young)
        self.sweeper = Sweeper(self.heap, self.rooms)
        self.steps = list(steps)

    def do(self, deed):
        """Does a deed and the steps behind it; tells what the deed tells."""
        check_program([deed])
        self.rooms.next_deed()
        if deed[0] in MAKERS and self.rooms.is_full():
            self.sweeper.admit(self.rooms.empty())
        told = act(self.heap, deed)
        self.heed_change()
        for _ in range(self.steps[self.rooms.deed % len(self.steps)]):
            self.sweeper.step()
        return told

    def heed_change(self):
        """Tells the mover and the sweeper which part of an old thing the deed changed."""
        if self.heap.change is None:
            return
        holder, lost, gained = self.heap.change
        if self.rooms.is_old(holder):
            self.rooms.note(holder, gained)
            self.sweeper.lost(lost)

    def young(self):
        """The numbers of the young things, rising."""
        return self.rooms.young_ones()

    def old(self):
        """The numbers of the old things, rising."""
        return sorted(self.rooms.spots)

    def listed(self):
        """The numbers of the listed old things, rising."""
        return sorted(self.rooms.noted)

    def places(self):
        """(number, place) of all old things, rising."""
        return [(number, self.rooms.spots[number]) for number in sorted(self.rooms.spots)]

    def went(self):
        """(number, deed) of all that went, in turn."""
        return list(self.rooms.gone)

    def word(self):
        """What the sweeper is at: "rest", "mark" or "sweep"."""
        return self.sweeper.phase

    def colours(self):
        """(number, colour) of all old things, rising; none at rest."""
        return [(number, self.sweeper.paint[number]) for number in sorted(self.sweeper.paint)]

    def finish(self):
        """Ends the round that is on, and does one whole round more."""
        self.sweeper.go_to_rest()
        self.sweeper.step()
        self.sweeper.go_to_rest()

    def photo(self):
        """The names' values and the things in reach."""
        return self.heap.photo()


def run_by(program, young, steps):
    """What all deeds of a program tell, done by a machine."""
    check_program(program)
    machine = Machine(young, steps)
    return [machine.do(deed) for deed in program]
