"""The young room and the old one, and the mover between them."""

from whokeeps.things import is_thing


class Rooms:
    """Where each thing of a heap is; a thing without a place in the old room is young."""

    def __init__(self, heap, most):
        self.heap = heap
        self.most = most
        self.spots = {}
        self.noted = {}
        self.gone = []
        self.deed = -1

    def next_deed(self):
        """From now on what goes, goes with the next deed."""
        self.deed += 1

    def young_ones(self):
        """The numbers of the young things, rising."""
        return [number for number in sorted(self.heap.things) if number not in self.spots]

    def is_full(self):
        """Whether the young room has no space for one more."""
        return len(self.young_ones()) >= self.most

    def is_old(self, number):
        """Whether this thing is in the old room."""
        return number in self.spots

    def note(self, holder, value):
        """Lists an old holder that got a young thing."""
        if is_thing(value) and not self.is_old(value[1]):
            self.noted[holder] = True

    def staying(self, young):
        """A dict of those young ones that move to the old room."""
        kept = self.heap.kept()
        starts = [number for number in young if number in kept]
        # A listed old thing may be out of reach; the mover doesn't know, so what it holds stays, too.
        for holder in self.noted:
            starts.extend(self.heap.things[holder].held())
        return self.heap.spread(starts, young)

    def free_place(self):
        """The least place of the old room that nobody has."""
        taken = list(self.spots.values())
        place = 0
        while place in taken:
            place += 1
        return place

    def empty(self):
        """Empties the young room; tells the numbers of what moved, rising."""
        young = self.young_ones()
        staying = self.staying(young)
        for number in young:
            if number in staying:
                self.spots[number] = self.free_place()
            else:
                self.let_go(number)
        self.noted = {}
        return sorted(staying)

    def let_go(self, number):
        """Lets a thing go, with its place if it has one."""
        self.heap.forget(number)
        if number in self.spots:
            del self.spots[number]
        self.gone.append((number, self.deed))
