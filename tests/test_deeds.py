"""Points 1, 2 and 3: values, things, kinds, names, and what each deed does and tells."""

import unittest

from tests.helper import NAMES, Case, done, machines, state, thing
from whokeeps.errors import BadProgram
from whokeeps.machines import Machine, run_by
from whokeeps.plain import Plain, run

KINDS = ("record", "row", "book")


def make(name, kind="record"):
    return ("make", name, kind)


class Simple(Case):
    def test_names_hold_none_at_first(self):
        self.tells(*[(("say", name), None) for name in NAMES])

    def test_things_are_numbered_as_they_are_made(self):
        self.tells((make("p"), thing(0)), (make("p", "row"), thing(1)), (make("w", "book"), thing(2)),
                   (("watch", "q", "w"), thing(3)), (make("p"), thing(4)), (("say", "p"), thing(4)))

    def test_a_deed_that_is_not_done_makes_no_number(self):
        self.tells((("watch", "p", "q"), "no"), (make("p"), thing(0)))

    def test_numbers_copies_and_drops(self):
        self.tells((("num", "p", 0), None), (("say", "p"), 0), (("num", "p", 99), None), (("say", "p"), 99),
                   (("copy", "q", "p"), None), (("say", "q"), 99), (("say", "p"), 99),
                   (("drop", "p"), None), (("say", "p"), None), (("drop", "p"), None),
                   (("copy", "q", "p"), None), (("say", "q"), None))

    def test_a_copy_is_the_same_thing(self):
        self.tells((make("p"), thing(0)), (("copy", "q", "p"), None), (("num", "r", 5), None),
                   (("put", "q", "a", "r"), None), (("take", "s", "p", "a"), 5))


class Records(Case):
    def test_four_parts_none_at_first(self):
        self.tells((make("p"), thing(0)), *[(("take", "q", "p", part), None) for part in "abcd"])

    def test_put_take_and_cut(self):
        self.tells((make("p"), thing(0)), (make("q"), thing(1)), (("put", "p", "d", "q"), None),
                   (("drop", "q"), None), (("take", "r", "p", "d"), thing(1)), (("say", "r"), thing(1)),
                   (("num", "s", 3), None), (("put", "p", "d", "s"), None), (("take", "r", "p", "d"), 3),
                   (("cut", "p", "d"), None), (("take", "r", "p", "d"), None), (("say", "r"), None),
                   (("cut", "p", "d"), None), (("put", "p", "d", "t"), None))

    def test_a_record_may_hold_itself(self):
        self.tells((make("p"), thing(0)), (("put", "p", "a", "p"), None), (("take", "p", "p", "a"), thing(0)))

    def test_a_record_has_no_numbers(self):
        self.tells((make("p"), thing(0)), (("num", "q", 1), None), (("put", "p", 0, "q"), "no"),
                   (("take", "q", "p", 0), "no"), (("cut", "p", 0), "no"), (("say", "q"), 1))


class Rows(Case):
    def test_places_begin_behind_the_last(self):
        self.tells((make("p", "row"), thing(0)), (("take", "q", "p", 0), "no"), (("cut", "p", 0), "no"),
                   (("put", "p", 1, "q"), "no"), (("put", "p", 0, "q"), None), (("take", "q", "p", 0), None),
                   (("put", "p", 2, "q"), "no"), (("num", "q", 7), None), (("put", "p", 1, "q"), None),
                   (("take", "r", "p", 1), 7), (("take", "r", "p", 2), "no"), (("say", "r"), 7))

    def test_eight_values_are_all(self):
        fill = []
        for place in range(8):
            fill += [(("num", "q", place), None), (("put", "p", place, "q"), None)]
        self.tells((make("p", "row"), thing(0)), *fill, (("put", "p", 8, "q"), "no"), (("put", "p", 9, "q"), "no"),
                   (("take", "r", "p", 8), "no"), (("cut", "p", 8), "no"), (("put", "p", 0, "q"), None),
                   (("take", "r", "p", 0), 7), (("take", "r", "p", 7), 7), (("take", "r", "p", 6), 6),
                   (("cut", "p", 3), None), (("put", "p", 8, "q"), "no"), (("put", "p", 7, "r"), None),
                   (("take", "s", "p", 7), 6), (("put", "p", 8, "q"), "no"))

    def test_those_behind_a_cut_move_down(self):
        self.tells((make("p", "row"), thing(0)),
                   (("num", "q", 10), None), (("put", "p", 0, "q"), None),
                   (("num", "q", 11), None), (("put", "p", 1, "q"), None),
                   (("num", "q", 12), None), (("put", "p", 2, "q"), None),
                   (("cut", "p", 3), "no"), (("cut", "p", 1), None), (("take", "r", "p", 0), 10),
                   (("take", "r", "p", 1), 12), (("take", "r", "p", 2), "no"), (("cut", "p", 1), None),
                   (("cut", "p", 0), None), (("cut", "p", 0), "no"), (("put", "p", 0, "q"), None))

    def test_a_row_has_no_letters(self):
        self.tells((make("p", "row"), thing(0)), (("put", "p", "a", "q"), "no"), (("put", "p", 0, "q"), None),
                   (("take", "q", "p", "a"), "no"), (("cut", "p", "a"), "no"))


class Books(Case):
    def test_any_key_and_none_twice(self):
        self.tells((make("p", "book"), thing(0)), (("take", "q", "p", 9), "no"), (("cut", "p", 9), "no"),
                   (("num", "q", 4), None), (("put", "p", 9, "q"), None), (("take", "r", "p", 9), 4),
                   (("put", "p", 9, "s"), None), (("take", "r", "p", 9), None), (("cut", "p", 9), None),
                   (("take", "r", "p", 9), "no"), (("cut", "p", 9), "no"))

    def test_a_key_with_none_is_there(self):
        self.tells((make("p", "book"), thing(0)), (("put", "p", 0, "q"), None), (("num", "r", 1), None),
                   (("take", "r", "p", 0), None), (("say", "r"), None), (("cut", "p", 0), None))

    def test_six_entries_are_all(self):
        self.tells((make("p", "book"), thing(0)), *[(("put", "p", key, "q"), None) for key in (9, 0, 5, 3, 7, 1)],
                   (("put", "p", 2, "q"), "no"), (("num", "q", 8), None), (("put", "p", 5, "q"), None),
                   (("take", "r", "p", 5), 8), (("cut", "p", 0), None), (("put", "p", 2, "q"), None),
                   (("put", "p", 0, "q"), "no"), (("take", "r", "p", 2), 8))

    def test_a_book_has_no_letters(self):
        self.tells((make("p", "book"), thing(0)), (("put", "p", "a", "q"), "no"), (("take", "q", "p", "a"), "no"),
                   (("cut", "p", "a"), "no"))


class NotToBeDone(Case):
    def test_numbers_and_none_have_no_parts(self):
        for first in (("num", "p", 5), ("drop", "p")):
            for part in ("a", 0):
                self.tells((first, None), (("put", "p", part, "q"), "no"), (("take", "q", "p", part), "no"),
                           (("cut", "p", part), "no"), (("last", "p", None), "no"), (("last", "p", "q"), "no"),
                           (("watch", "q", "p"), "no"), (("ask", "q", "p"), "no"))

    def test_a_watch_has_no_parts_and_no_last_deed(self):
        self.tells((make("p"), thing(0)), (("watch", "q", "p"), thing(1)), (("put", "q", "a", "p"), "no"),
                   (("put", "q", 0, "p"), "no"), (("take", "r", "q", "a"), "no"), (("take", "r", "q", 0), "no"),
                   (("cut", "q", "a"), "no"), (("cut", "q", 0), "no"), (("last", "q", None), "no"),
                   (("last", "q", "p"), "no"))

    def test_only_watches_are_asked(self):
        self.tells((make("p"), thing(0)), (make("q", "row"), thing(1)), (make("r", "book"), thing(2)),
                   (("num", "s", 1), None), *[(("ask", "s", name), "no") for name in "pqrst"], (("say", "s"), 1))

    def test_a_question_not_to_be_done_tells_no_watch(self):
        plain = done(Plain(), make("p"), ("watch", "q", "p"), ("drop", "p"))
        self.assertEqual(plain.do(("ask", "r", "p")), "no")
        self.assertEqual(plain.photo()[1], [(1, "watch", [("sees", thing(0))], 2)])


class Watches(Case):
    def test_what_a_watch_sees(self):
        for kind in KINDS:
            self.tells((make("p", kind), thing(0)), (("watch", "q", "p"), thing(1)), (("ask", "r", "q"), thing(0)),
                       (("say", "r"), thing(0)), (("say", "q"), thing(1)))

    def test_a_watch_of_a_watch(self):
        self.tells((make("p"), thing(0)), (("watch", "q", "p"), thing(1)), (("watch", "r", "q"), thing(2)),
                   (("ask", "s", "r"), thing(1)), (("ask", "t", "s"), thing(0)), (("drop", "q"), None),
                   (("drop", "s"), None), (("ask", "s", "r"), None), (("say", "p"), thing(0)))

    def test_the_name_of_the_thing_may_get_its_watch(self):
        self.tells((make("p"), thing(0)), (("watch", "p", "p"), thing(1)), (("say", "p"), thing(1)),
                   (("ask", "p", "p"), None), (("say", "p"), None))

    def test_the_name_that_gets_what_is_seen_may_be_its_only_holder(self):
        self.tells((make("p"), thing(0)), (("watch", "q", "p"), thing(1)), (("ask", "p", "q"), thing(0)),
                   (("ask", "q", "q"), thing(0)), (("say", "q"), thing(0)))

    def test_parts_may_hold_watches(self):
        self.tells((make("p"), thing(0)), (("watch", "q", "p"), thing(1)), (("put", "p", "a", "q"), None),
                   (("drop", "q"), None), (("take", "q", "p", "a"), thing(1)), (("ask", "r", "q"), thing(0)))


class LastDeeds(Case):
    def test_once_for_each_kind(self):
        for kind in KINDS:
            for goal in (None, "p", "w"):
                self.tells((make("p", kind), thing(0)), (("last", "p", goal), None), (("last", "p", goal), "no"),
                           (("last", "p", "q"), "no"), (("last", "p", None), "no"))

    def test_not_again_when_it_is_done(self):
        self.tells((make("p"), thing(0)), (("last", "p", "q"), None), (("drop", "p"), None), (("settle",), [0]),
                   (("say", "q"), thing(0)), (("last", "q", "r"), "no"), (("drop", "q"), None), (("settle",), []))

    def test_a_refused_second_goal_does_not_count(self):
        self.tells((make("p"), thing(0)), (("last", "p", None), None), (("last", "p", "q"), "no"),
                   (("drop", "p"), None), (("settle",), [0]), (("say", "q"), None))


class InReach(Case):
    def test_by_names_and_parts_not_by_watches(self):
        plain = done(Plain(), make("p"), make("q", "row"), make("r", "book"), make("s"), ("put", "p", "a", "q"),
                     ("put", "q", 0, "r"), ("put", "r", 4, "s"), ("watch", "t", "s"))
        self.assertEqual((plain.reach(), plain.kept()), ([0, 1, 2, 3, 4], [0, 1, 2, 3, 4]))
        done(plain, ("drop", "q"), ("drop", "r"), ("drop", "s"))
        self.assertEqual(plain.reach(), [0, 1, 2, 3, 4])
        plain.do(("cut", "p", "a"))
        self.assertEqual((plain.reach(), plain.kept()), ([0, 4], [0, 4]))

    def test_a_ring_out_of_reach(self):
        plain = done(Plain(), make("p"), make("q"), ("put", "p", "a", "q"), ("put", "q", "a", "p"), ("drop", "p"))
        self.assertEqual(plain.reach(), [0, 1])
        plain.do(("drop", "q"))
        self.assertEqual((plain.reach(), plain.kept()), ([], []))

    def test_a_due_last_deed_keeps_without_reach(self):
        plain = done(Plain(), make("p"), make("q"), make("r", "row"), ("put", "p", "b", "q"), ("put", "q", "c", "r"),
                     ("last", "p", None), ("drop", "q"), ("drop", "r"), ("drop", "p"))
        self.assertEqual((plain.reach(), plain.kept()), ([], [0, 1, 2]))
        plain.do(("settle",))
        self.assertEqual((plain.reach(), plain.kept()), ([], []))


NO_DEEDS = (
    (), ("go",), ("",), ("Say", "p"), (5,), (None,), ("settle", "p"), ("settle", None), ("say",), ("say", "p", "q"),
    ("say", "x"), ("say", "o"), ("say", ""), ("say", "pq"), ("say", "P"), ("say", 0), ("say", None),
    ("drop",), ("drop", "p", "q"), ("drop", "a"), ("make", "p"), ("make", "p", "watch"), ("make", "p", "thing"),
    ("make", "p", ""), ("make", "p", None), ("make", "a", "row"), ("make", "row", "p"), ("make", "p", "row", "q"),
    ("num", "p"), ("num", "p", -1), ("num", "p", 100), ("num", "p", "5"), ("num", "p", None), ("num", "p", True),
    ("num", "p", False), ("num", 5, "p"), ("num", "p", 5, 5), ("copy", "p"), ("copy", "p", 5), ("copy", "x", "p"),
    ("copy", "p", "x"), ("copy", "p", None), ("copy", "p", "q", "r"), ("put", "p", "a"), ("put", "p", "e", "q"),
    ("put", "p", "A", "q"), ("put", "p", "", "q"), ("put", "p", "ab", "q"), ("put", "p", -1, "q"),
    ("put", "p", 10, "q"), ("put", "p", "0", "q"), ("put", "p", None, "q"), ("put", "p", True, "q"),
    ("put", "p", "p", "q"), ("put", "x", "a", "q"), ("put", "p", "a", "x"), ("put", "p", "a", 5),
    ("put", "p", "a", "q", "r"), ("take", "p", "q"), ("take", "p", "a", "q"), ("take", "p", "q", "e"),
    ("take", "p", "q", 10), ("take", "p", "q", -1), ("take", "p", "q", None), ("take", "x", "q", 0),
    ("take", "p", "x", 0), ("take", "p", "q", 0, 0), ("cut", "p"), ("cut", "p", "e"), ("cut", "p", 10),
    ("cut", "p", -1), ("cut", "p", None), ("cut", "x", 0), ("cut", "p", 0, 0), ("watch", "p"), ("watch", "p", "x"),
    ("watch", "x", "p"), ("watch", "p", None), ("watch", "p", "q", "r"), ("last", "p"), ("last", "p", "x"),
    ("last", "x", "p"), ("last", "p", 0), ("last", "p", ""), ("last", "p", "-"), ("last", None, "p"),
    ("last", "p", None, None), ("ask", "p"), ("ask", "p", "x"), ("ask", "x", "p"), ("ask", "p", None),
    ("ask", "p", "q", "r"), ["say", "p"], "settle", None, 7,
)


class NoDeeds(Case):
    def test_each_at_place_0(self):
        for deed in NO_DEEDS:
            with self.subTest(deed=deed):
                self.assertEqual(self.refused(BadProgram, Plain().do, deed).place, 0)
                self.assertEqual(self.refused(BadProgram, Machine(2, [1]).do, deed).place, 0)

    def test_each_at_other_places(self):
        for at, deed in enumerate(NO_DEEDS):
            place = at + 5
            program = [("settle",)] * place + [deed] + [("settle",)] * (119 - place)
            with self.subTest(deed=deed):
                self.assertEqual(self.refused(BadProgram, run, program).place, place)
                self.assertEqual(self.refused(BadProgram, run_by, program, 1, [0]).place, place)

    def test_the_first_of_several(self):
        program = [("say", "p"), ("say", "x"), ("go",)]
        self.assertEqual(self.refused(BadProgram, run, program).place, 1)
        self.assertEqual(self.refused(BadProgram, run_by, program, 1, [0]).place, 1)

    def test_at_most_120_deeds(self):
        program = [("num", "p", 3)] * 120
        self.assertEqual(run(program), [None] * 120)
        self.assertEqual(run_by(program, 1, [0]), [None] * 120)
        for many in (121, 122, 300):
            program = [("num", "p", 3)] * many
            self.assertEqual(self.refused(BadProgram, run, program).place, 120)
            self.assertEqual(self.refused(BadProgram, run_by, program, 1, [0]).place, 120)
        late = [("settle",)] * 122 + [("go",)]
        self.assertEqual(self.refused(BadProgram, run, late).place, 120)
        early = [("settle",)] * 119 + [("go",)] + [("settle",)] * 5
        self.assertEqual(self.refused(BadProgram, run, early).place, 119)

    def test_no_deeds_at_all(self):
        self.assertEqual(run([]), [])
        self.assertEqual(run_by([], 1, [0]), [])

    def test_a_heap_does_more_than_120_deeds(self):
        plain, machine = Plain(), Machine(3, [2])
        for number in range(150):
            self.assertEqual(plain.do(make("p")), thing(number))
            self.assertEqual(machine.do(make("p")), thing(number))

    def test_a_refused_deed_changes_nothing(self):
        deeds = (make("p"), ("watch", "q", "p"), make("r", "row"), ("last", "r", "p"), ("put", "p", "a", "r"))
        plain = done(Plain(), *deeds)
        before = (plain.reach(), plain.kept(), plain.photo())
        for deed in NO_DEEDS:
            self.refused(BadProgram, plain.do, deed)
        self.assertEqual((plain.reach(), plain.kept(), plain.photo()), before)
        for machine in machines():
            done(machine, *deeds)
            before = state(machine)
            for deed in NO_DEEDS:
                self.refused(BadProgram, machine.do, deed)
            self.assertEqual(state(machine), before)


class HandedIn(Case):
    def test_a_program_is_neither_changed_nor_kept(self):
        program = [make("p", "row"), ("num", "q", 4), ("put", "p", 0, "q"), ("take", "r", "p", 0)]
        copy = list(program)
        told = run(program)
        told_by = run_by(program, 1, [1])
        self.assertEqual(program, copy)
        program.clear()
        self.assertEqual(told, [thing(0), None, None, 4])
        self.assertEqual(told_by, told)
        self.assertEqual(run(copy), told)

    def test_what_a_program_tells_may_be_changed(self):
        program = [make("p"), ("last", "p", None), ("drop", "p"), ("settle",)]
        told = run(program)
        told[3].append(9)
        told.clear()
        self.assertEqual(run(program), [thing(0), None, None, [0]])

    def test_what_a_heap_tells_may_be_changed(self):
        plain = done(Plain(), make("p"), ("last", "p", None), make("p", "row"))
        plain.do(("settle",)).append(7)
        for told in (plain.reach(), plain.kept(), *plain.photo(), plain.photo()[1][0][2]):
            told.append(7)
        self.assertEqual((plain.reach(), plain.kept()), ([1], [1]))
        self.assertEqual(plain.photo(), ([thing(1)] + [None] * 7, [(1, "row", [], 1)]))


if __name__ == "__main__":
    unittest.main()
