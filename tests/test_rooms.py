"""Points 7 and 8: the young room, the old one, the mover, and what they tell."""

import unittest

from tests.helper import Case, done, mixed_program, state, thing
from whokeeps.errors import BadProgram, BadSteps, BadYoung
from whokeeps.machines import Machine, run_by
from whokeeps.plain import Plain


def still(young):
    """A machine whose sweeper does nothing."""
    return Machine(young, [0])


class Young(Case):
    def test_sizes(self):
        for young in range(1, 9):
            machine = still(young)
            for number in range(young):
                machine.do(("make", "p", "row"))
            self.assertEqual((machine.young(), machine.went()), (list(range(young)), []))
            machine.do(("make", "p", "row"))
            self.assertEqual((machine.young(), machine.old()), ([young], [young - 1]))
            self.assertEqual(machine.went(), [(number, young) for number in range(young - 1)])

    def test_other_sizes_are_refused(self):
        for young in (0, -1, 9, 100, True, False, None, "1"):
            self.refused(BadYoung, Machine, young, [0])
            self.refused(BadYoung, run_by, [], young, [0])

    def test_what_is_handed_in_first_is_refused_first(self):
        self.refused(BadYoung, Machine, 0, [])
        self.refused(BadYoung, run_by, [], 0, [])
        self.refused(BadSteps, run_by, [("settle",)], 1, [])
        self.assertEqual(self.refused(BadProgram, run_by, [("settle",), ("go",)], 0, []).place, 1)
        self.assertEqual(self.refused(BadProgram, run_by, [("settle",)] * 121, 9, [31]).place, 120)

    def test_a_new_machine(self):
        self.assertEqual(state(still(4)), ([], [], [], [], [], "rest", [], ([None] * 8, [])))

    def test_watches_are_young_too(self):
        machine = done(still(3), ("make", "p", "row"), ("watch", "q", "p"), ("watch", "r", "q"))
        self.assertEqual((machine.young(), machine.old()), ([0, 1, 2], []))
        machine.do(("watch", "s", "q"))
        self.assertEqual((machine.young(), machine.old()), ([3], [0, 1, 2]))


class Emptied(Case):
    def test_only_when_full_and_ahead_of_make_or_watch(self):
        machine = done(still(2), ("make", "p", "row"), ("make", "q", "row"), ("drop", "q"))
        before = state(machine)[:7]
        done(machine, ("num", "r", 3), ("copy", "r", "p"), ("put", "p", 0, "r"), ("take", "s", "p", 0),
             ("cut", "p", 0), ("last", "p", None), ("ask", "s", "p"), ("settle",), ("say", "p"))
        self.assertEqual(state(machine)[:7], before)
        machine.do(("make", "p", "row"))
        self.assertEqual((machine.young(), machine.old(), machine.went()), ([2], [0], [(1, 12)]))

    def test_ahead_of_a_watch_that_can_not_be_done(self):
        machine = done(still(1), ("make", "p", "row"), ("drop", "p"))
        self.assertEqual(machine.do(("watch", "q", "p")), "no")
        self.assertEqual((machine.young(), machine.old(), machine.went()), ([], [], [(0, 2)]))
        machine = done(still(1), ("make", "p", "row"))
        self.assertEqual(machine.do(("watch", "p", "q")), "no")
        self.assertEqual((machine.young(), machine.old(), machine.went()), ([], [0], []))

    def test_not_ahead_of_a_refused_one(self):
        machine = done(still(1), ("make", "p", "row"), ("drop", "p"))
        for deed in (("make", "p", "watch"), ("watch", "p", "x"), ("watch", "p"), ("make",)):
            self.refused(BadProgram, machine.do, deed)
            self.assertEqual((machine.young(), machine.old(), machine.went()), ([0], [], []))
        machine.do(("make", "p", "row"))
        self.assertEqual(machine.went(), [(0, 2)])

    def test_ahead_of_the_deed(self):
        # When the room is emptied the name still holds its thing.
        machine = done(still(1), ("make", "p", "row"), ("make", "p", "row"))
        self.assertEqual((machine.young(), machine.old(), machine.went()), ([1], [0], []))
        machine.do(("watch", "p", "p"))
        self.assertEqual((machine.young(), machine.old(), machine.went()), ([2], [0, 1], []))

    def test_in_reach_by_young_and_old(self):
        machine = done(still(4), ("make", "p", "record"), ("make", "q", "row"), ("make", "r", "book"),
                       ("make", "s", "row"), ("put", "p", "b", "q"), ("put", "q", 0, "r"), ("drop", "q"),
                       ("drop", "r"), ("drop", "s"), ("make", "s", "row"))
        self.assertEqual((machine.young(), machine.old(), machine.went()), ([4], [0, 1, 2], [(3, 9)]))

    def test_due_ones_and_what_they_hold(self):
        machine = done(still(3), ("make", "p", "record"), ("make", "q", "row"), ("put", "p", "a", "q"),
                       ("last", "p", None), ("drop", "q"), ("make", "q", "row"), ("drop", "p"), ("drop", "q"),
                       ("make", "r", "row"))
        self.assertEqual((machine.young(), machine.old(), machine.went()), ([3], [0, 1], [(2, 8)]))

    def test_done_ones_go(self):
        machine = done(still(1), ("make", "p", "row"), ("last", "p", None), ("drop", "p"), ("settle",),
                       ("make", "p", "row"))
        self.assertEqual((machine.young(), machine.old(), machine.went()), ([1], [], [(0, 4)]))

    def test_what_is_seen_only_goes(self):
        machine = done(still(2), ("make", "p", "row"), ("watch", "q", "p"), ("drop", "p"), ("make", "p", "row"))
        self.assertEqual((machine.young(), machine.old(), machine.went()), ([2], [1], [(0, 3)]))
        self.assertEqual(machine.photo()[1][0], (1, "watch", [("sees", thing(0))], 2))
        self.assertEqual(machine.do(("ask", "r", "q")), None)

    def test_several_go_rising(self):
        machine = done(still(4), ("make", "p", "row"), ("make", "p", "row"), ("make", "p", "row"),
                       ("make", "q", "row"), ("drop", "p"), ("make", "q", "row"))
        self.assertEqual(machine.went(), [(0, 5), (1, 5), (2, 5)])


class Listed(Case):
    def start(self, young=2):
        """A machine with the old record 0, held by p."""
        return done(still(young), ("make", "p", "record"), *[("make", "q", "row")] * young)

    def test_an_old_thing_that_gets_a_young_one(self):
        machine = self.start()
        self.assertEqual((machine.young(), machine.old(), machine.listed()), ([2], [0, 1], []))
        machine.do(("put", "p", "a", "q"))
        self.assertEqual(machine.listed(), [0])
        machine.do(("put", "p", "b", "q"))
        self.assertEqual(machine.listed(), [0])

    def test_what_is_not_listed(self):
        machine = self.start(3)
        # A young holder, an old value, a number, None, a deed that can't be done, and a watch's thing.
        done(machine, ("make", "r", "row"), ("put", "r", 0, "q"), ("put", "p", "a", "p"), ("num", "s", 3),
             ("put", "p", "b", "s"), ("put", "p", "c", "t"), ("put", "p", 0, "q"), ("cut", "p", "a"),
             ("take", "s", "p", "b"), ("watch", "t", "p"))
        self.assertEqual((machine.young(), machine.listed()), ([3, 4, 5], []))

    def test_listed_rising_until_it_is_emptied(self):
        machine = done(still(2), ("make", "p", "record"), ("make", "q", "row"), ("make", "r", "book"),
                       ("put", "q", 0, "r"), ("put", "p", "d", "r"))
        self.assertEqual(machine.listed(), [0, 1])
        machine.do(("make", "s", "row"))
        self.assertEqual(machine.listed(), [0, 1])
        machine.do(("make", "s", "row"))
        self.assertEqual((machine.listed(), machine.old(), machine.young()), ([], [0, 1, 2, 3], [4]))

    def test_listed_though_the_young_one_was_put_over(self):
        machine = done(self.start(), ("put", "p", "a", "q"), ("cut", "p", "a"), ("drop", "q"))
        self.assertEqual(machine.listed(), [0])
        done(machine, ("make", "r", "row"), ("make", "s", "row"))
        self.assertEqual((machine.listed(), machine.old(), machine.went()), ([], [0, 1, 3], [(2, 7)]))

    def test_what_a_listed_one_out_of_reach_holds_moves(self):
        machine = done(self.start(), ("put", "p", "a", "q"), ("drop", "q"), ("drop", "p"), ("make", "r", "row"),
                       ("drop", "r"), ("make", "r", "row"))
        self.assertEqual((machine.young(), machine.old(), machine.went()), ([4], [0, 1, 2], [(3, 8)]))

    def test_and_what_moves_so_holds(self):
        machine = self.start(3)
        self.assertEqual((machine.young(), machine.old(), machine.went()), ([3], [0, 2], [(1, 3)]))
        # 0 holds 3, that holds 4, that holds 5; nobody holds 0.
        done(machine, ("put", "p", "a", "q"), ("make", "r", "row"), ("put", "q", 0, "r"), ("make", "s", "book"),
             ("put", "r", 0, "s"), ("drop", "p"), ("drop", "q"), ("drop", "r"), ("drop", "s"), ("make", "t", "row"))
        self.assertEqual((machine.young(), machine.old(), machine.went()), ([6], [0, 2, 3, 4, 5], [(1, 3)]))


class Places(Case):
    def test_lesser_numbers_first(self):
        machine = done(still(3), ("make", "r", "row"), ("make", "q", "row"), ("make", "p", "row"),
                       ("drop", "q"), ("make", "s", "row"))
        self.assertEqual(machine.places(), [(0, 0), (2, 1)])
        done(machine, ("make", "t", "row"), ("make", "u", "row"), ("make", "v", "row"))
        self.assertEqual(machine.places(), [(0, 0), (2, 1), (3, 2), (4, 3), (5, 4)])

    def test_the_least_free_place(self):
        machine = done(still(2), ("make", "p", "row"), ("make", "q", "row"), ("make", "r", "row"),
                       ("make", "s", "row"), ("make", "t", "row"), ("drop", "p"), ("drop", "r"))
        self.assertEqual(machine.places(), [(0, 0), (1, 1), (2, 2), (3, 3)])
        machine.finish()
        self.assertEqual(machine.places(), [(1, 1), (3, 3), (4, 4)])
        done(machine, ("make", "p", "row"), ("make", "r", "row"), ("make", "u", "row"))
        self.assertEqual(machine.places(), [(1, 1), (3, 3), (4, 4), (5, 0), (6, 2)])
        self.assertEqual(machine.went(), [(0, 6), (2, 6)])


class Always(Case):
    def test_each_thing_is_young_old_or_gone(self):
        for seed in range(60):
            plain, machine = Plain(), Machine(1 + seed % 8, [seed % 5, 0, seed % 7])
            for at, deed in enumerate(mixed_program(seed)):
                gone = len(machine.went())
                plain.do(deed)
                machine.do(deed)
                went = [number for number, _ in machine.went()]
                parts = machine.young() + machine.old() + went
                self.assertEqual(sorted(parts), list(range(len(parts))))
                self.assertEqual([row[0] for row in machine.places()], machine.old())
                self.assertEqual(len({row[1] for row in machine.places()}), len(machine.old()))
                self.assertEqual([row[1] for row in machine.went()[gone:]], [at] * (len(went) - gone))
                self.assertLessEqual(len(machine.young()), 1 + seed % 8)
                self.assertLessEqual(set(machine.listed()), set(machine.old()))
                self.assertFalse(set(went) & set(plain.kept()))

    def test_what_is_told_may_be_changed(self):
        machine = done(still(2), ("make", "p", "record"), ("make", "q", "row"), ("drop", "q"), ("make", "q", "row"),
                       ("put", "p", "a", "q"))
        before = state(machine)
        self.assertEqual(before[:5], ([2], [0], [0], [(0, 0)], [(1, 3)]))
        for told in (*state(machine)[:5], *machine.photo(), machine.photo()[1][0][2]):
            told.clear()
        self.assertEqual(state(machine), before)


if __name__ == "__main__":
    unittest.main()
