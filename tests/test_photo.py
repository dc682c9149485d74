"""Point 11: photos."""

import unittest

from tests.helper import Case, done, machines, mixed_program, thing
from whokeeps.plain import Plain

NONE = [None] * 8


def heaps(*deeds):
    """A plain heap and machines behind these deeds."""
    return [done(heap, *deeds) for heap in [Plain()] + machines()]


class Photo(Case):
    def test_of_nothing(self):
        for heap in heaps():
            self.same(heap.photo(), (NONE, []))

    def test_names_in_their_order(self):
        for heap in heaps(("num", "w", 8), ("num", "p", 1), ("make", "s", "row")):
            self.same(heap.photo(), ([1, None, None, thing(0), None, None, None, 8], [(0, "row", [], 1)]))

    def test_a_record(self):
        for heap in heaps(("make", "p", "record"), ("num", "q", 6), ("put", "p", "c", "q"), ("put", "p", "a", "p")):
            parts = [("a", thing(0)), ("b", None), ("c", 6), ("d", None)]
            self.same(heap.photo()[1], [(0, "record", parts, 5)])

    def test_a_row(self):
        for heap in heaps(("make", "p", "row"), ("put", "p", 0, "p"), ("put", "p", 1, "q"), ("num", "q", 0),
                          ("put", "p", 2, "q")):
            self.same(heap.photo()[1], [(0, "row", [(0, thing(0)), (1, None), (2, 0)], 4)])

    def test_a_book_by_rising_keys(self):
        for heap in heaps(("make", "p", "book"), ("put", "p", 9, "p"), ("num", "q", 3), ("put", "p", 0, "q"),
                          ("put", "p", 4, "r")):
            self.same(heap.photo()[1], [(0, "book", [(0, 3), (4, None), (9, thing(0))], 7)])

    def test_an_empty_book(self):
        for heap in heaps(("make", "p", "book")):
            self.same(heap.photo()[1], [(0, "book", [], 1)])

    def test_a_watch(self):
        for heap in heaps(("make", "p", "row"), ("watch", "q", "p")):
            self.same(heap.photo()[1], [(0, "row", [], 1), (1, "watch", [("sees", thing(0))], 2)])

    def test_a_watch_that_is_told_none_and_one_that_is_not_told_yet(self):
        deeds = (("make", "p", "row"), ("watch", "q", "p"), ("drop", "p"), ("make", "r", "row"), ("make", "s", "row"))
        for heap in heaps(*deeds):
            self.same(heap.photo()[1][0], (1, "watch", [("sees", thing(0))], 2))
            self.same(heap.photo()[1][0], (1, "watch", [("sees", thing(0))], 2))
            heap.do(("settle",))
            self.same(heap.photo()[1][0], (1, "watch", [("sees", None)], 2))

    def test_what_is_in_reach_rising(self):
        deeds = (("make", "p", "row"), ("make", "q", "row"), ("make", "r", "record"), ("make", "s", "book"),
                 ("put", "s", 1, "p"), ("put", "r", "b", "s"), ("drop", "p"), ("drop", "s"), ("last", "q", None),
                 ("drop", "q"))
        for heap in heaps(*deeds):
            # 1 is kept, but not in reach.
            self.same(heap.photo(), ([None, None, thing(2)] + [None] * 5, [
                (0, "row", [], 1),
                (2, "record", [("a", None), ("b", thing(3)), ("c", None), ("d", None)], 5),
                (3, "book", [(1, thing(0))], 3),
            ]))

    def test_alike_behind_the_same_deeds(self):
        for seed in range(60):
            first, *others = heaps()
            for deed in mixed_program(seed):
                first.do(deed)
                for heap in others:
                    heap.do(deed)
                    self.same(heap.photo(), first.photo())

    def test_a_photo_stays_as_it_was(self):
        for heap in heaps(("make", "p", "row"), ("num", "q", 1), ("put", "p", 0, "q")):
            before = heap.photo()
            done(heap, ("cut", "p", 0), ("drop", "q"))
            self.same(before, ([thing(0), 1] + [None] * 6, [(0, "row", [(0, 1)], 2)]))

    def test_a_photo_may_be_changed(self):
        for heap in heaps(("make", "p", "row"), ("num", "q", 1), ("put", "p", 0, "q")):
            names, things = heap.photo()
            things[0][2].append((1, 5))
            things.clear()
            names[0] = None
            self.same(heap.photo(), ([thing(0), 1] + [None] * 6, [(0, "row", [(0, 1)], 2)]))

    def test_kinds_of_values(self):
        photo = Plain().photo()
        self.assertIsInstance(photo, tuple)
        self.assertEqual([value.__class__ for value in photo], [list, list])


if __name__ == "__main__":
    unittest.main()
