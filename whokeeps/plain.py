"""The plain run, which lets nothing go."""

from whokeeps.acts import act
from whokeeps.deeds import check_program
from whokeeps.heap import Heap


class Plain:
    """A heap in which all things stay."""

    def __init__(self):
        self.heap = Heap()

    def do(self, deed):
        """Does a deed; tells what it tells."""
        check_program([deed])
        return act(self.heap, deed)

    def reach(self):
        """The numbers of all things in reach, rising."""
        return sorted(self.heap.reach())

    def kept(self):
        """The numbers of all kept things, rising."""
        return sorted(self.heap.kept())

    def photo(self):
        """The names' values and the things in reach."""
        return self.heap.photo()


def run(program):
    """What all deeds of a program tell, done plainly."""
    check_program(program)
    plain = Plain()
    return [plain.do(deed) for deed in program]
