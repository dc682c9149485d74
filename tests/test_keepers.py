"""Points 12 to 15: ways to things, what a thing keeps, and its master."""

import copy
import unittest

from tests.helper import (NAMES, Case, come_to, done, machines, mixed_photos, mixed_program, mixed_rows_photo,
                          rows_photo, thing)
from whokeeps.errors import NoThing
from whokeeps.keepers import keeps, masters, total, totals, way
from whokeeps.plain import Plain

EMPTY = ([None] * 8, [])


def photo_of(*deeds):
    """The photo of a plain heap behind these deeds."""
    return done(Plain(), *deeds).photo()


def numbers_of(photo):
    return [row[0] for row in photo[1]]


def first_ways(photo):
    """The first shortest way to each thing, bettered until no way is better."""
    best = {}

    def better(number, steps):
        if number in best and (len(best[number]), best[number]) <= (len(steps), steps):
            return False
        best[number] = steps
        return True

    changed = True
    while changed:
        changed = False
        for name, value in zip(NAMES, photo[0]):
            if isinstance(value, tuple):
                changed |= better(value[1], [name])
        for number, kind, parts, _ in photo[1]:
            for part, value in parts:
                if number in best and kind != "watch" and isinstance(value, tuple):
                    changed |= better(value[1], best[number] + [str(part)])
    return best


def all_ways(photo):
    """(way, numbers on it) of all ways that come to no thing twice."""
    table = {row[0]: row for row in photo[1]}
    ways = [([name], [value[1]]) for name, value in zip(NAMES, photo[0]) if isinstance(value, tuple)]
    # The list grows while it is gone over.
    for steps, on_it in ways:
        _, kind, parts, _ = table[on_it[-1]]
        for part, value in parts:
            if kind != "watch" and isinstance(value, tuple) and value[1] not in on_it:
                ways.append((steps + [str(part)], on_it + [value[1]]))
    return ways


def kept_by_definition(photo, number):
    return [other for other in numbers_of(photo) if other not in come_to(photo, number)]


class Way(Case):
    def test_by_a_name(self):
        for name in NAMES:
            self.same(way(photo_of(("make", name, "row")), 0), [name])

    def test_of_several_names_the_first(self):
        photo = photo_of(("make", "t", "record"), ("copy", "w", "t"), ("copy", "r", "t"))
        self.same(way(photo, 0), ["r"])

    def test_a_name_is_shorter_than_a_part(self):
        photo = photo_of(("make", "p", "record"), ("make", "w", "row"), ("put", "p", "a", "w"))
        self.same(way(photo, 1), ["w"])

    def test_a_letter(self):
        for letter in "abcd":
            photo = photo_of(("make", "p", "record"), ("make", "q", "row"), ("put", "p", letter, "q"), ("drop", "q"))
            self.same(way(photo, 1), ["p", letter])

    def test_a_place_as_its_figure(self):
        fill = [("put", "p", place, "r") for place in range(8)]
        for place in range(8):
            photo = photo_of(("make", "p", "row"), *fill, ("make", "q", "row"), ("put", "p", place, "q"),
                             ("drop", "q"))
            self.same(way(photo, 1), ["p", str(place)])

    def test_a_key_as_its_figure(self):
        for key in range(10):
            photo = photo_of(("make", "q", "book"), ("make", "p", "row"), ("put", "q", key, "p"), ("drop", "p"))
            self.same(way(photo, 1), ["q", str(key)])

    def test_of_several_parts_the_first(self):
        photo = photo_of(("make", "p", "record"), ("make", "q", "row"), ("put", "p", "d", "q"), ("put", "p", "b", "q"),
                         ("drop", "q"))
        self.same(way(photo, 1), ["p", "b"])
        photo = photo_of(("make", "p", "book"), ("make", "q", "row"), ("put", "p", 7, "q"), ("put", "p", 2, "q"),
                         ("drop", "q"))
        self.same(way(photo, 1), ["p", "2"])

    def test_of_several_shortest_ways_the_first_name_goes_ahead_of_the_part(self):
        photo = photo_of(("make", "q", "record"), ("make", "p", "record"), ("make", "r", "row"),
                         ("put", "q", "a", "r"), ("put", "p", "d", "r"), ("drop", "r"))
        self.same(way(photo, 2), ["p", "d"])

    def test_the_first_part_that_differs_decides(self):
        # By the thing of the lesser number the way is p, b, 0.
        photo = photo_of(("make", "p", "record"), ("make", "q", "book"), ("make", "r", "book"), ("make", "s", "row"),
                         ("put", "p", "b", "q"), ("put", "p", "a", "r"), ("put", "q", 0, "s"), ("put", "r", 9, "s"),
                         ("drop", "q"), ("drop", "r"), ("drop", "s"))
        self.same(way(photo, 3), ["p", "a", "9"])

    def test_a_part_of_a_lesser_thing_is_not_ahead(self):
        photo = photo_of(("make", "r", "record"), ("make", "q", "row"), ("make", "p", "row"), ("put", "r", "a", "p"),
                         ("put", "q", 0, "p"), ("drop", "p"))
        self.same(way(photo, 2), ["q", "0"])

    def test_a_longer_way_of_an_earlier_name_is_not_told(self):
        photo = rows_photo({"p": 0, "w": 3}, {0: [1], 1: [2], 2: [], 3: [2]})
        self.same(way(photo, 2), ["w", "0"])

    def test_a_long_way(self):
        deeds = [("make", "p", "record")]
        for at in range(1, 300):
            deeds += [("make", "q", "record"), ("put", "q", "c", "p"), ("copy", "p", "q")]
        photo = photo_of(*deeds, ("drop", "q"))
        self.same(way(photo, 0), ["p"] + ["c"] * 299)
        self.same(way(photo, 299), ["p"])

    def test_rings_and_what_holds_itself(self):
        photo = rows_photo({"u": 1}, {0: [0, 2], 1: [2, 1], 2: [1, 0]})
        self.same(way(photo, 0), ["u", "0", "1"])
        self.same(way(photo, 1), ["u"])
        self.same(way(photo, 2), ["u", "0"])

    def test_a_watch_may_be_come_to(self):
        photo = photo_of(("make", "p", "row"), ("watch", "q", "p"), ("put", "p", 0, "q"), ("drop", "q"))
        self.same(way(photo, 1), ["p", "0"])

    def test_what_a_watch_sees_is_not_come_to_by_it(self):
        photo = photo_of(("make", "q", "record"), ("make", "r", "row"), ("put", "q", "b", "r"), ("watch", "p", "r"),
                         ("drop", "r"))
        self.same(photo[1][2], (2, "watch", [("sees", thing(1))], 2))
        self.same(way(photo, 1), ["q", "b"])

    def test_what_only_a_watch_sees_is_no_thing_of_the_photo(self):
        photo = photo_of(("make", "p", "row"), ("watch", "q", "p"), ("drop", "p"))
        self.same(photo[1], [(1, "watch", [("sees", thing(0))], 2)])
        self.refused(NoThing, way, photo, 0)
        self.same(way(photo, 1), ["q"])

    def test_numbers_that_names_and_parts_hold_are_no_things(self):
        photo = photo_of(("num", "p", 0), ("make", "q", "row"), ("put", "q", 0, "p"))
        self.same(way(photo, 0), ["q"])
        self.refused(NoThing, way, photo_of(("num", "p", 0)), 0)

    def test_the_first_of_all_ways(self):
        for seed in range(150):
            photo = mixed_rows_photo(seed)
            ways = all_ways(photo)
            for number in numbers_of(photo):
                there = [(len(steps), steps) for steps, on_it in ways if on_it[-1] == number]
                self.same(way(photo, number), min(there)[1])

    def test_the_first_ways_of_mixed_photos(self):
        for photo in mixed_photos(60):
            best = first_ways(photo)
            self.same(sorted(best), numbers_of(photo))
            for number in best:
                self.same(way(photo, number), best[number])


class NoThings(Case):
    def test_numbers_that_the_photo_has_not(self):
        photo = photo_of(("make", "p", "record"), ("make", "q", "row"), ("make", "r", "book"), ("make", "q", "row"))
        self.assertEqual(numbers_of(photo), [0, 2, 3])
        for asking in (way, keeps, total):
            for number in (-1, -3, 1, 4, 5, 99, 10 ** 9):
                self.refused(NoThing, asking, photo, number)
            self.refused(NoThing, asking, EMPTY, 0)

    def test_what_is_kept_but_out_of_reach(self):
        photo = photo_of(("make", "p", "record"), ("last", "p", None), ("make", "p", "row"))
        for asking in (way, keeps, total):
            self.refused(NoThing, asking, photo, 0)
            asking(photo, 1)

    def test_true_and_false_are_no_numbers(self):
        photo = rows_photo({"p": 0}, {0: [1], 1: []})
        for asking in (way, keeps, total):
            self.refused(NoThing, asking, photo, False)
            self.refused(NoThing, asking, photo, True)


class Keeps(Case):
    def keeping(self, photo, rows):
        """Each row: the number, what it keeps, its total, its master."""
        for number, kept, many, _ in rows:
            self.same(keeps(photo, number), kept)
            self.same(total(photo, number), many)
        self.same(totals(photo), [(row[0], row[2]) for row in rows])
        self.same(masters(photo), [(row[0], row[3]) for row in rows])

    def test_an_empty_photo(self):
        self.same(masters(EMPTY), [])
        self.same(totals(EMPTY), [])
        self.same(masters(photo_of(("num", "p", 3))), [])

    def test_one_alone(self):
        self.keeping(rows_photo({"p": 7}, {7: []}), [(7, [7], 1, None)])

    def test_a_chain(self):
        self.keeping(rows_photo({"p": 2}, {0: [], 1: [0], 2: [1]}),
                     [(0, [0], 1, 1), (1, [0, 1], 3, 2), (2, [0, 1, 2], 5, None)])

    def test_a_ring(self):
        self.keeping(rows_photo({"p": 1}, {0: [1], 1: [2], 2: [0]}),
                     [(0, [0], 2, 2), (1, [0, 1, 2], 6, None), (2, [0, 2], 4, 1)])

    def test_a_ring_with_two_names(self):
        self.keeping(rows_photo({"p": 0, "q": 2}, {0: [1], 1: [2], 2: [3], 3: [0]}),
                     [(0, [0, 1], 4, None), (1, [1], 2, 0), (2, [2, 3], 4, None), (3, [3], 2, 2)])

    def test_what_holds_itself(self):
        self.keeping(rows_photo({"p": 0}, {0: [0, 1], 1: [1]}), [(0, [0, 1], 5, None), (1, [1], 2, 0)])

    def test_held_from_two_sides(self):
        self.keeping(rows_photo({"p": 0}, {0: [1, 2], 1: [3], 2: [3], 3: [4], 4: []}),
                     [(0, [0, 1, 2, 3, 4], 10, None), (1, [1], 2, 0), (2, [2], 2, 0), (3, [3, 4], 3, 0),
                      (4, [4], 1, 3)])

    def test_two_parts_of_one_thing_are_one_side(self):
        self.keeping(rows_photo({"p": 0}, {0: [1, 1], 1: []}), [(0, [0, 1], 4, None), (1, [1], 1, 0)])

    def test_two_names_hold_the_same(self):
        self.keeping(rows_photo({"p": 0, "w": 0}, {0: [1], 1: []}), [(0, [0, 1], 3, None), (1, [1], 1, 0)])

    def test_two_names_hold_two_that_hold_a_third(self):
        self.keeping(rows_photo({"p": 0, "q": 1}, {0: [2], 1: [2], 2: []}),
                     [(0, [0], 2, None), (1, [1], 2, None), (2, [2], 1, None)])

    def test_a_name_and_a_part(self):
        self.keeping(rows_photo({"p": 0, "q": 1}, {0: [1], 1: [2], 2: []}),
                     [(0, [0], 2, None), (1, [1, 2], 3, None), (2, [2], 1, 1)])

    def test_the_master_is_the_nearest(self):
        # 5 is kept by 4, 3, 0 and itself; neither by 1 nor by 2.
        self.keeping(rows_photo({"p": 4}, {0: [5], 1: [3], 2: [3], 3: [0], 4: [1, 2], 5: [4]}),
                     [(0, [0, 5], 4, 3), (1, [1], 2, 4), (2, [2], 2, 4), (3, [0, 3, 5], 6, 4),
                      (4, [0, 1, 2, 3, 4, 5], 13, None), (5, [5], 2, 0)])

    def test_sizes_of_all_kinds_and_watches_among_them(self):
        photo = photo_of(("make", "p", "record"), ("make", "q", "book"), ("make", "r", "row"), ("watch", "s", "r"),
                         ("put", "q", 4, "r"), ("put", "q", 9, "s"), ("num", "t", 5), ("put", "q", 0, "t"),
                         ("put", "r", 0, "t"), ("put", "r", 1, "u"), ("put", "p", "c", "q"),
                         ("drop", "q"), ("drop", "r"), ("drop", "s"))
        self.keeping(photo, [(0, [0, 1, 2, 3], 5 + 7 + 3 + 2, None), (1, [1, 2, 3], 12, 0), (2, [2], 3, 1),
                             (3, [3], 2, 1)])

    def test_a_watch_keeps_itself_alone(self):
        photo = photo_of(("make", "p", "row"), ("watch", "q", "p"), ("watch", "r", "q"))
        self.keeping(photo, [(0, [0], 1, None), (1, [1], 2, None), (2, [2], 2, None)])

    def test_a_watch_is_no_side(self):
        # 1 is seen by the watch that q holds, and held by 0 alone.
        photo = photo_of(("make", "p", "row"), ("make", "r", "row"), ("put", "p", 0, "r"), ("watch", "q", "r"),
                         ("drop", "r"))
        self.keeping(photo, [(0, [0, 1], 3, None), (1, [1], 1, 0), (2, [2], 2, None)])

    def test_a_long_chain(self):
        many = 400
        photo = rows_photo({"p": 0}, {at: [at + 1] if at + 1 < many else [] for at in range(many)})
        self.same(totals(photo), [(at, 2 * (many - at) - 1) for at in range(many)])
        self.same(masters(photo), [(at, at - 1 if at else None) for at in range(many)])


class Laws(Case):
    """What holds between them, on many photos."""

    def all_photos(self):
        return mixed_photos(60) + [mixed_rows_photo(seed) for seed in range(250)]

    def test_keeps_total_and_totals(self):
        for photo in self.all_photos():
            sizes = {row[0]: row[3] for row in photo[1]}
            wanted = []
            for number in numbers_of(photo):
                kept = kept_by_definition(photo, number)
                self.same(keeps(photo, number), kept)
                self.same(total(photo, number), sum(sizes[other] for other in kept))
                wanted.append((number, total(photo, number)))
            self.same(totals(photo), wanted)

    def test_the_master_by_its_definition(self):
        for photo in self.all_photos():
            kept = {number: kept_by_definition(photo, number) for number in numbers_of(photo)}
            wanted = []
            for number in kept:
                others = [other for other in kept if other != number and number in kept[other]]
                nearest = [one for one in others if all(one in kept[other] for other in others)]
                self.assertEqual(len(nearest), 1 if others else 0)
                wanted.append((number, nearest[0] if nearest else None))
            self.same(masters(photo), wanted)

    def test_each_way_goes_through_the_master(self):
        for seed in range(150):
            photo = mixed_rows_photo(seed)
            ways = all_ways(photo)
            for number, master in masters(photo):
                on_all = set(numbers_of(photo))
                for _, on_it in ways:
                    if on_it[-1] == number:
                        on_all &= set(on_it)
                self.same(sorted(on_all), [one for one in numbers_of(photo) if number in keeps(photo, one)])
                self.assertEqual(master is None, on_all == {number})
                self.assertTrue(master is None or master in on_all - {number})

    def test_totals_together(self):
        for photo in self.all_photos():
            many = dict(totals(photo))
            alone = [number for number, master in masters(photo) if master is None]
            self.assertEqual(sum(many[number] for number in alone), sum(row[3] for row in photo[1]))
            for number, master in masters(photo):
                if master is not None:
                    self.assertGreater(many[master], many[number])
                    self.assertLess(set(keeps(photo, number)), set(keeps(photo, master)))

    def test_the_photos_are_worth_it(self):
        most, mastered, alone = 0, 0, 0
        for photo in self.all_photos():
            for number, master in masters(photo):
                most = max(most, len(keeps(photo, number)))
                mastered += master is not None
                alone += master is None and way(photo, number)[1:] != []
        self.assertGreater(most, 5)
        self.assertGreater(mastered, 300)
        self.assertGreater(alone, 20)


class Handed(Case):
    """Point 1: nothing is changed or kept, and what is told may be changed."""

    def asked(self, photo):
        numbers = numbers_of(photo)
        return ([way(photo, number) for number in numbers], [keeps(photo, number) for number in numbers],
                [total(photo, number) for number in numbers], masters(photo), totals(photo))

    def test_photos_stay_as_they_are_and_copies_tell_the_same(self):
        for photo in mixed_photos(20):
            before = copy.deepcopy(photo)
            told = self.asked(photo)
            self.same(photo, before)
            self.same(self.asked(photo), told)
            self.same(self.asked(before), told)

    def test_what_is_told_may_be_changed(self):
        photo = rows_photo({"p": 0}, {0: [1], 1: []})
        for asking in (lambda: way(photo, 1), lambda: keeps(photo, 0), lambda: masters(photo), lambda: totals(photo)):
            told = asking()
            before = list(told)
            told.clear()
            self.same(asking(), before)
        self.same(photo, rows_photo({"p": 0}, {0: [1], 1: []}))

    def test_what_is_handed_in_may_be_changed_later(self):
        photo = rows_photo({"p": 0}, {0: [1], 1: []})
        told = (way(photo, 1), keeps(photo, 0), masters(photo), totals(photo))
        wanted = copy.deepcopy(told)
        photo[0].clear()
        photo[1].clear()
        self.same(told, wanted)

    def test_refused_changes_nothing(self):
        photo = rows_photo({"p": 0}, {0: [1], 1: []})
        before = copy.deepcopy(photo)
        for asking in (way, keeps, total):
            self.refused(NoThing, asking, photo, 2)
        self.same(photo, before)

    def test_photos_of_machines_tell_the_same(self):
        for seed in range(15):
            program = mixed_program(seed, 60)
            wanted = self.asked(photo_of(*program))
            for machine in machines():
                self.same(self.asked(done(machine, *program).photo()), wanted)

    def test_asking_a_photo_does_not_touch_the_heap(self):
        plain = done(Plain(), *mixed_program(4))
        before = (plain.reach(), plain.kept(), plain.photo())
        self.asked(plain.photo())
        self.same((plain.reach(), plain.kept(), plain.photo()), before)


if __name__ == "__main__":
    unittest.main()
