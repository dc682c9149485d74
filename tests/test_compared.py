"""Points 16 and 17: two photos compared, photos of what grows, and leaks."""

import copy
import unittest

from tests.helper import Case, done, machines, mixed_photos, mixed_program, mixed_rows_photo, rows_photo, thing
from whokeeps.compared import compared, growing, leak
from whokeeps.errors import BadPhotos, BadProgram, BadTimes
from whokeeps.keepers import keeps, totals
from whokeeps.plain import Plain

EMPTY = ([None] * 8, [])
SAY = [("say", "p")]
NO_DEED = ("say", "x")

# Each time a new record is put ahead of the chain that q's book holds.
SETUP = [("make", "q", "book")]
LONGER = [("make", "p", "record"), ("take", "r", "q", 0), ("put", "p", "a", "r"), ("put", "q", 0, "p"),
          ("drop", "p"), ("drop", "r")]


class Compared(Case):
    def test_nothing_at_all(self):
        self.same(compared(EMPTY, EMPTY), ([], [], []))

    def test_with_itself(self):
        for photo in mixed_photos(30):
            self.same(compared(photo, photo), ([], [], []))
            self.same(compared(photo, copy.deepcopy(photo)), ([], [], []))

    def test_in_one_alone_both_ways_about(self):
        before = rows_photo({"p": 1, "q": 3, "r": 5}, {1: [], 3: [], 5: []})
        after = rows_photo({"p": 0, "q": 3, "r": 4, "s": 6}, {0: [], 3: [], 4: [], 6: []})
        self.same(compared(before, after), ([0, 4, 6], [1, 5], []))
        self.same(compared(after, before), ([1, 5], [0, 4, 6], []))
        self.same(compared(EMPTY, after), ([0, 3, 4, 6], [], []))
        self.same(compared(before, EMPTY), ([], [1, 3, 5], []))

    def test_grown_shrunk_and_stayed(self):
        before = rows_photo({"p": 0, "q": 1, "r": 2}, {0: [], 1: [3], 2: [], 3: []})
        after = rows_photo({"p": 0, "q": 1, "r": 2}, {0: [3, 4], 1: [], 2: [], 3: [], 4: []})
        # 1 shrank, 2 and 3 stayed; 4 is new, so not grown.
        self.same(compared(before, after), ([4], [], [(0, 4)]))
        self.same(compared(after, before), ([], [4], [(1, 2)]))

    def test_grown_by_what_it_keeps_not_by_what_it_holds(self):
        # 0 is as it was; what it keeps, grew. 2 lost a second way, so 1 keeps it.
        before = rows_photo({"p": 0, "q": 2}, {0: [1], 1: [2], 2: []})
        after = rows_photo({"p": 0}, {0: [1], 1: [2], 2: []})
        self.same(compared(before, after), ([], [], [(0, 1), (1, 1)]))
        self.same(compared(after, before), ([], [], []))

    def test_a_changed_thing_of_the_same_total(self):
        before = rows_photo({"p": 0}, {0: [1], 1: []})
        after = rows_photo({"p": 0}, {0: [0], 1: []})
        after[1].pop()
        self.same(compared(before, after), ([], [1], []))

    def test_behind_deeds(self):
        plain = done(Plain(), ("make", "p", "record"), ("make", "q", "book"), ("make", "r", "row"))
        before = plain.photo()
        done(plain, ("put", "q", 3, "r"), ("drop", "r"), ("drop", "p"), ("make", "p", "row"))
        self.same(compared(before, plain.photo()), ([3], [0], [(1, 3)]))

    def test_by_its_definition(self):
        photos = mixed_photos(40)
        for before, after in zip(photos, photos[1:]):
            first, second = dict(totals(before)), dict(totals(after))
            self.same(compared(before, after), (
                sorted(set(second) - set(first)),
                sorted(set(first) - set(second)),
                [(one, second[one] - first[one]) for one in sorted(set(first) & set(second))
                 if second[one] > first[one]],
            ))

    def test_photos_stay_and_what_is_told_may_be_changed(self):
        before, after = mixed_photos(12)[10:]
        kept = copy.deepcopy((before, after))
        told = compared(before, after)
        wanted = copy.deepcopy(told)
        for part in told:
            part.clear()
        self.same((before, after), kept)
        self.same(compared(before, after), wanted)
        self.assertIsInstance(told, tuple)


class Growing(Case):
    def test_a_photo_behind_each_time(self):
        first, second, third = growing(SETUP, LONGER, 3)
        self.same([[row[0] for row in photo[1]] for photo in (first, second, third)],
                  [[0, 1], [0, 1, 2], [0, 1, 2, 3]])
        self.same(totals(third), [(0, 18), (1, 5), (2, 10), (3, 15)])

    def test_as_a_plain_heap_does_it(self):
        for seed in range(20):
            first, again = mixed_program(seed, 40), mixed_program(seed + 100, 30)
            many = 2 + seed % 7
            plain = done(Plain(), *first)
            wanted = [done(plain, *again).photo() for _ in range(many)]
            self.same(growing(first, again, many), wanted)

    def test_the_second_begins_with_what_the_first_left_and_with_what_it_left_itself(self):
        photos = growing([("num", "p", 5)], [("copy", "r", "q"), ("copy", "q", "p"), ("num", "p", 7)], 4)
        self.same([photo[0][:3] for photo in photos], [[7, 5, None], [7, 7, 5], [7, 7, 7], [7, 7, 7]])

    def test_settled_and_watched_on_the_way(self):
        again = [("make", "p", "row"), ("last", "p", "q"), ("watch", "r", "p"), ("drop", "p"), ("settle",)]
        photos = growing([], again, 2)
        self.same(photos[0], ([None, thing(0), thing(1)] + [None] * 5,
                              [(0, "row", [], 1), (1, "watch", [("sees", None)], 2)]))
        self.same(photos[1], ([None, thing(2), thing(3)] + [None] * 5,
                              [(2, "row", [], 1), (3, "watch", [("sees", None)], 2)]))

    def test_deeds_that_cannot_be_done(self):
        self.same(growing([("cut", "p", "a")], [("put", "p", 0, "q")], 2), [EMPTY, EMPTY])

    def test_two_to_eight_times(self):
        for many in range(2, 9):
            self.assertEqual(len(growing([], SAY, many)), many)
        for many in (1, 0, -1, -2, 9, 10, 10 ** 9, True, False):
            self.refused(BadTimes, growing, [], SAY, many)

    def test_empty_programs(self):
        self.same(growing([], [], 2), [EMPTY, EMPTY])
        photo = ([thing(0)] + [None] * 7, [(0, "row", [], 1)])
        self.same(growing([("make", "p", "row")], [], 3), [photo] * 3)

    def test_120_and_121_deeds(self):
        most = [("make", "p", "row")] * 120
        self.same(growing(most, most, 8)[7][0][0], thing(1079))
        self.assertEqual(self.refused(BadProgram, growing, most + SAY, SAY, 2).place, 120)
        self.assertEqual(self.refused(BadProgram, growing, SAY, most + SAY, 2).place, 120)
        self.assertEqual(self.refused(BadProgram, growing, SAY, most + [NO_DEED], 2).place, 120)

    def test_programs_that_are_none(self):
        self.assertEqual(self.refused(BadProgram, growing, [NO_DEED], SAY, 2).place, 0)
        self.assertEqual(self.refused(BadProgram, growing, SAY, SAY + [NO_DEED], 2).place, 1)
        self.assertEqual(self.refused(BadProgram, growing, SAY, SAY * 2 + [["say", "p"]], 2).place, 2)

    def test_handed_in_first_is_refused_first(self):
        self.assertEqual(self.refused(BadProgram, growing, SAY * 3 + [NO_DEED], [NO_DEED], 1).place, 3)
        self.assertEqual(self.refused(BadProgram, growing, SAY, [NO_DEED], 9).place, 0)

    def test_programs_stay_and_photos_may_be_changed(self):
        first, again = list(SETUP), list(LONGER)
        told = growing(first, again, 3)
        self.same((first, again), (SETUP, LONGER))
        wanted = copy.deepcopy(told)
        told[0][1][0][2].clear()
        told[0][0].clear()
        self.same(told[1:], wanted[1:])
        told.clear()
        self.same(growing(first, again, 3), wanted)

    def test_behind_a_refusal_it_tells_the_same(self):
        wanted = growing(SETUP, LONGER, 2)
        self.refused(BadTimes, growing, SETUP, LONGER, 1)
        self.refused(BadProgram, growing, SETUP, LONGER + [NO_DEED], 2)
        self.same(growing(SETUP, LONGER, 2), wanted)


def bare(*sizes):
    """A photo of rows that names hold: each (number, size); they keep themselves alone."""
    names = dict(zip("pqrstuvw", [number for number, _ in sizes]))
    photo = rows_photo(names, {number: [] for number, _ in sizes})
    rows = [(number, "row", [(place, None) for place in range(size - 1)], size) for number, size in sorted(sizes)]
    return (photo[0], rows)


class Leak(Case):
    def test_one_and_nine_photos(self):
        self.refused(BadPhotos, leak, [])
        self.refused(BadPhotos, leak, [EMPTY])
        self.refused(BadPhotos, leak, [EMPTY] * 9)
        for many in range(2, 9):
            self.same(leak([EMPTY] * many), [])
            self.same(leak(growing(SETUP, LONGER, many)), [0])

    def test_grows_each_time(self):
        self.same(leak([bare((4, 1), (7, 2)), bare((4, 2), (7, 5)), bare((4, 3), (7, 6))]), [4, 7])

    def test_grows_but_once(self):
        self.same(leak([bare((4, 1), (5, 1)), bare((4, 2), (5, 2)), bare((4, 2), (5, 3))]), [5])
        self.same(leak([bare((4, 1)), bare((4, 1)), bare((4, 2))]), [])

    def test_shrinks_on_the_way(self):
        self.same(leak([bare((4, 1)), bare((4, 4)), bare((4, 3)), bare((4, 5))]), [])
        self.same(leak([bare((4, 3)), bare((4, 2))]), [])

    def test_stays(self):
        photo = bare((0, 1), (3, 4))
        self.same(leak([photo, photo]), [])

    def test_comes_late(self):
        self.same(leak([bare((1, 1)), bare((1, 2), (2, 1)), bare((1, 3), (2, 2))]), [1])
        self.same(leak([EMPTY, bare((1, 1)), bare((1, 2))]), [])

    def test_goes(self):
        self.same(leak([bare((1, 1), (2, 1)), bare((1, 2), (2, 2)), bare((2, 3))]), [2])
        self.same(leak([bare((1, 1)), bare((1, 2)), EMPTY]), [])

    def test_is_missing_between(self):
        self.same(leak([bare((1, 1), (2, 1)), bare((2, 2)), bare((1, 3), (2, 3))]), [2])

    def test_who_grows_and_keeps_another_that_grows(self):
        # 0 and 1 grow by nothing but 2, which they keep; q keeps 3 from being kept by any of them.
        photos = [rows_photo({"p": 0, "q": 3}, {0: [1], 1: [2], 2: [3] * many, 3: []}) for many in (1, 2, 3)]
        self.same([dict(totals(photo))[0] for photo in photos], [6, 7, 8])
        self.same(leak(photos), [2])

    def test_who_holds_another_that_grows_but_does_not_keep_it(self):
        # Both names hold their own; 0 and 1 grow, and 1 is held by 0, too.
        photos = [rows_photo({"p": 0, "q": 1}, {0: [1] * many, 1: [0] * many}) for many in (1, 2, 3)]
        self.same(leak(photos), [0, 1])

    def test_who_keeps_one_that_grows_no_more(self):
        # 1 grows once only, 0 each time.
        photos = [rows_photo({"p": 0}, {0: [1] * many, 1: [0] * min(many, 2)}) for many in (1, 2, 3)]
        self.same(leak(photos), [0])

    def test_the_last_photo_decides_who_keeps_whom(self):
        # In the first photo 0 keeps 1, in the last one it doesn't.
        first = rows_photo({"p": 0}, {0: [1], 1: []})
        last = rows_photo({"p": 0, "q": 1}, {0: [1, 0, 0, 0], 1: [0]})
        self.same([totals(first), totals(last)], [[(0, 3), (1, 1)], [(0, 5), (1, 2)]])
        self.same(leak([first, last]), [0, 1])
        # And the other way about.
        first = rows_photo({"p": 0, "q": 1}, {0: [1], 1: []})
        last = rows_photo({"p": 0}, {0: [1], 1: [0]})
        self.same(leak([first, last]), [1])

    def test_a_program_that_leaks(self):
        setup = [("make", "p", "record"), ("make", "q", "book"), ("put", "p", "a", "q"), ("drop", "q")]
        again = [("take", "q", "p", "a"), ("make", "r", "row"), ("take", "s", "q", 2), ("put", "r", 0, "s"),
                 ("put", "q", 2, "r"), ("drop", "q"), ("drop", "r"), ("drop", "s")]
        # 0 keeps 1, which keeps the chain; each row of the chain stays as it is.
        self.same(leak(growing(setup, again, 5)), [1])

    def test_rising(self):
        photos = [bare(*[(number, many) for number in (9, 2, 30, 11, 4)]) for many in (1, 2, 3)]
        self.same(leak(photos), [2, 4, 9, 11, 30])

    def test_by_its_definition(self):
        found, keepers = 0, 0
        several = [[mixed_rows_photo(3 * seed + at) for at in range(2 + seed % 2)] for seed in range(200)]
        several += [growing(mixed_program(seed, 60), mixed_program(seed + 300, 12), 2 + seed % 3) for seed in range(60)]
        for photos in several:
            tables = [dict(totals(photo)) for photo in photos]
            grown = [number for number in tables[0] if all(number in table for table in tables)
                     and all(first[number] < second[number] for first, second in zip(tables, tables[1:]))]
            wanted = [number for number in grown if set(keeps(photos[-1], number)) & set(grown) == {number}]
            self.same(leak(photos), wanted)
            found += len(wanted)
            keepers += len(grown) - len(wanted)
        self.assertGreater(found, 50)
        self.assertGreater(keepers, 10)

    def test_photos_of_machines(self):
        for machine in machines():
            done(machine, *SETUP)
            photos = [done(machine, *LONGER).photo() for _ in range(4)]
            self.same(photos, growing(SETUP, LONGER, 4))
            self.same(leak(photos), [0])

    def test_photos_stay_and_what_is_told_may_be_changed(self):
        photos = growing(SETUP, LONGER, 4)
        before = copy.deepcopy(photos)
        told = leak(photos)
        told.append(7)
        self.same(photos, before)
        self.same(leak(photos), [0])
        self.same(leak(before), [0])
        self.refused(BadPhotos, leak, photos * 3)
        self.same(photos, before)


if __name__ == "__main__":
    unittest.main()
