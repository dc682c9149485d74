"""Point 9: the sweeper, step by step, and finish."""

import unittest

from tests.helper import Case, done, mixed_program, state, thing
from whokeeps.errors import BadProgram, BadSteps
from whokeeps.machines import Machine, run_by
from whokeeps.plain import Plain

REST = ("say", "p")


def words(steps, many):
    """The word behind each of so many deeds on an empty heap, where a round is three steps."""
    machine = Machine(8, steps)
    return [done(machine, REST).word() for _ in range(many)]


class Steps(Case):
    def test_other_steps_are_refused(self):
        for steps in ([], [0] * 9, [1] * 20, [-1], [31], [0, 30, 31], [0, -1, 5], [True], [0, False], [None], ["1"]):
            self.refused(BadSteps, Machine, 4, steps)
            self.refused(BadSteps, run_by, [("settle",)], 4, steps)

    def test_bounds(self):
        for steps in ([0], [30], [0] * 8, [30] * 8, [0, 30]):
            self.assertEqual(run_by([("settle",)], 4, steps), [[]])

    def test_so_many_behind_each_deed(self):
        self.assertEqual(words([0], 3), ["rest", "rest", "rest"])
        self.assertEqual(words([1], 7), ["mark", "sweep", "rest", "mark", "sweep", "rest", "mark"])
        self.assertEqual(words([2], 4), ["sweep", "mark", "rest", "sweep"])
        self.assertEqual(words([30], 2), ["rest", "rest"])
        self.assertEqual(words([29], 2), ["sweep", "mark"])

    def test_by_the_place_of_the_rest(self):
        self.assertEqual(words([0, 2, 2], 6), ["rest", "sweep", "mark", "mark", "rest", "sweep"])
        eight = [1, 0, 0, 0, 0, 0, 0, 2]
        self.assertEqual(words(eight, 9), ["mark"] * 7 + ["rest", "mark"])

    def test_steps_are_neither_changed_nor_kept(self):
        steps = [0, 1]
        machine = Machine(4, steps)
        steps[0] = 30
        steps.append(7)
        self.assertEqual([done(machine, REST).word() for _ in range(4)], ["rest", "mark", "mark", "sweep"])
        self.assertEqual(steps, [30, 1, 7])

    def test_a_refused_deed_does_no_step_and_has_no_number(self):
        machine = Machine(4, [0, 1])
        for _ in range(3):
            self.refused(BadProgram, machine.do, ("say", "x"))
            self.assertEqual(machine.word(), "rest")
        self.assertEqual([done(machine, REST).word() for _ in range(2)], ["rest", "mark"])

    def test_a_deed_that_can_not_be_done_does_its_steps(self):
        machine = Machine(4, [1])
        self.assertEqual(machine.do(("cut", "p", "a")), "no")
        self.assertEqual(machine.word(), "mark")


class Trace(Case):
    def follow(self, machine, *rows):
        """Each row: a deed, then the word, the colours, young, old and went behind it."""
        for at, (deed, *wanted) in enumerate(rows):
            machine.do(deed)
            told = [machine.word(), machine.colours(), machine.young(), machine.old(), machine.went()]
            self.assertEqual(told, wanted, f"behind deed {at}")

    def test_rounds_one_by_one(self):
        black, white = [(0, "black")], [(0, "white"), (1, "white")]
        machine = Machine(8, [1])
        self.follow(
            machine,
            (("make", "p", "record"), "mark", [(0, "grey")], [], [0], []),
            (("make", "q", "row"), "mark", black, [1], [0], []),
            (("put", "p", "a", "q"), "sweep", black, [1], [0], []),
            (("drop", "q"), "rest", [], [1], [0], []),
            # 0 is listed, so the round empties the young room into the old one.
            (("drop", "p"), "mark", white, [], [0, 1], []),
            (REST, "sweep", white, [], [0, 1], []),
            (REST, "sweep", [(1, "white")], [], [1], [(0, 6)]),
            (REST, "sweep", [], [], [], [(0, 6), (1, 7)]),
            (REST, "rest", [], [], [], [(0, 6), (1, 7)]),
        )

    def test_what_moves_is_black(self):
        machine = Machine(1, [1])
        black = [(0, "black"), (1, "black")]
        self.follow(
            machine,
            (("make", "p", "record"), "mark", [(0, "grey")], [], [0], []),
            (("make", "q", "row"), "mark", [(0, "black")], [1], [0], []),
            (("make", "r", "row"), "sweep", black, [2], [0, 1], []),
            (("make", "s", "row"), "rest", [], [3], [0, 1, 2], []),
            (("drop", "p"), "mark", [(0, "white"), (1, "grey"), (2, "grey"), (3, "grey")], [], [0, 1, 2, 3], []),
            (("make", "t", "row"), "mark", [(0, "white"), (1, "black"), (2, "grey"), (3, "grey")], [4],
             [0, 1, 2, 3], []),
        )
        # While it sweeps, too: 0 is put down, 4 moves.
        done(machine, REST, REST, REST)
        self.assertEqual((machine.word(), machine.young()), ("sweep", [4]))
        self.follow(
            machine,
            (("make", "u", "row"), "sweep", [(1, "black"), (2, "black"), (3, "black"), (4, "black")], [5],
             [1, 2, 3, 4], [(0, 9)]),
            (("make", "v", "row"), "rest", [], [6], [1, 2, 3, 4, 5], [(0, 9)]),
        )
        self.assertEqual(machine.places(), [(1, 1), (2, 2), (3, 3), (4, 4), (5, 0)])

    def test_a_round_lets_young_ones_go(self):
        self.follow(
            Machine(8, [0, 0, 1]),
            (("make", "p", "row"), "rest", [], [0], [], []),
            (("make", "p", "row"), "rest", [], [0, 1], [], []),
            (("make", "p", "row"), "mark", [(2, "grey")], [], [2], [(0, 2), (1, 2)]),
        )

    def test_the_least_grey_one_first(self):
        # p holds 0, that holds 3; q holds 1, that holds 2.
        machine = done(Machine(8, [0, 0, 0, 0, 0, 0, 0, 1]), ("make", "p", "record"), ("make", "q", "book"),
                       ("make", "r", "row"), ("put", "q", 5, "r"), ("make", "r", "row"), ("put", "p", "c", "r"),
                       ("drop", "r"), REST)
        self.assertEqual(machine.colours(), [(0, "grey"), (1, "grey"), (2, "white"), (3, "white")])
        for wanted in (["black", "grey", "white", "grey"], ["black", "black", "grey", "grey"],
                       ["black", "black", "black", "grey"], ["black"] * 4):
            done(machine, *[REST] * 8)
            self.assertEqual((machine.word(), machine.colours()), ("mark", list(enumerate(wanted))))
        done(machine, *[REST] * 8)
        self.assertEqual((machine.word(), machine.colours()), ("sweep", list(enumerate(["black"] * 4))))
        done(machine, *[REST] * 8)
        self.assertEqual((machine.word(), machine.colours()), ("rest", []))

    def test_due_ones_are_grey_at_first(self):
        machine = done(Machine(8, [0, 0, 0, 0, 0, 0, 1, 1]), ("make", "p", "row"), ("make", "q", "row"),
                       ("put", "p", 0, "q"), ("last", "p", "w"), ("drop", "p"), ("drop", "q"), REST)
        self.assertEqual(machine.colours(), [(0, "grey"), (1, "white")])
        machine.do(REST)
        self.assertEqual(machine.colours(), [(0, "black"), (1, "grey")])

    def test_watches_mark_nothing(self):
        machine = done(Machine(8, [0, 0, 0, 0, 1, 1, 1, 1]), ("make", "p", "row"), ("watch", "q", "p"),
                       REST, REST, REST)
        self.assertEqual(machine.colours(), [(0, "grey"), (1, "grey")])
        machine = done(Machine(8, [0, 0, 0, 1, 1, 1, 1, 1]), ("make", "p", "row"), ("watch", "q", "p"),
                       ("last", "p", None), ("drop", "p"))
        self.assertEqual(machine.colours(), [(0, "grey"), (1, "grey")])
        machine = done(Machine(1, [0, 0, 0, 1, 1, 1, 1, 1]), ("make", "p", "row"), ("watch", "q", "p"),
                       ("drop", "p"), REST)
        self.assertEqual(machine.colours(), [(0, "white"), (1, "grey")])
        machine.do(REST)
        self.assertEqual((machine.word(), machine.colours()), ("mark", [(0, "white"), (1, "black")]))
        machine.do(REST)
        self.assertEqual((machine.word(), machine.colours()), ("sweep", [(0, "white"), (1, "black")]))
        machine.do(REST)
        self.assertEqual((machine.word(), machine.went()), ("sweep", [(0, 6)]))

    def test_young_ones_have_no_colour(self):
        machine = done(Machine(8, [0, 1, 0, 0, 1, 0, 0, 0]), ("make", "p", "record"), REST, ("make", "q", "row"),
                       ("put", "p", "a", "q"), REST)
        self.assertEqual((machine.word(), machine.colours(), machine.young()), ("mark", [(0, "black")], [1]))

    def test_swept_rising_and_places_are_free(self):
        machine = done(Machine(3, [0, 0, 0, 0, 0, 0, 0, 1]), ("make", "p", "row"), ("make", "q", "row"),
                       ("make", "r", "row"), ("make", "s", "row"), ("drop", "q"), ("drop", "p"), ("drop", "r"), REST)
        self.assertEqual(machine.colours(), [(0, "white"), (1, "white"), (2, "white"), (3, "grey")])
        done(machine, *[REST] * 16)
        self.assertEqual((machine.word(), machine.old()), ("sweep", [0, 1, 2, 3]))
        done(machine, *[REST] * 8)
        self.assertEqual((machine.places(), machine.went()), ([(1, 1), (2, 2), (3, 3)], [(0, 31)]))
        done(machine, *[("make", "v", "row")] * 4)
        self.assertEqual((machine.places(), machine.went()), ([(1, 1), (2, 2), (3, 3), (6, 0)],
                                                              [(0, 31), (4, 35), (5, 35)]))
        self.assertEqual(machine.colours(), [(1, "white"), (2, "white"), (3, "black"), (6, "black")])
        done(machine, *[REST] * 4)
        self.assertEqual(machine.went()[3:], [(1, 39)])
        done(machine, *[REST] * 8)
        self.assertEqual((machine.word(), machine.went()[3:]), ("sweep", [(1, 39), (2, 47)]))
        done(machine, *[REST] * 8)
        self.assertEqual((machine.word(), machine.colours()), ("rest", []))


class PutOver(Case):
    def begun(self, kind, part):
        """p holds the old 0, its part the white 1; it marks, and no step comes for three deeds."""
        machine = done(Machine(8, [0, 0, 0, 0, 1, 0, 0, 0]), ("make", "p", kind), ("make", "q", "row"),
                       ("put", "p", part, "q"), ("drop", "q"), REST)
        self.assertEqual((machine.word(), machine.colours()), ("mark", [(0, "grey"), (1, "white")]))
        return machine

    def test_put_over(self):
        for kind, part in (("record", "d"), ("row", 0), ("book", 7)):
            machine = done(self.begun(kind, part), ("put", "p", part, "p"))
            self.assertEqual(machine.colours(), [(0, "grey"), (1, "grey")])

    def test_cut_out(self):
        for kind, part in (("record", "d"), ("row", 0), ("book", 7)):
            machine = done(self.begun(kind, part), ("cut", "p", part))
            self.assertEqual(machine.colours(), [(0, "grey"), (1, "grey")])

    def test_put_over_by_itself(self):
        machine = done(self.begun("row", 0), ("take", "q", "p", 0))
        self.assertEqual(machine.colours(), [(0, "grey"), (1, "white")])
        machine.do(("put", "p", 0, "q"))
        self.assertEqual(machine.colours(), [(0, "grey"), (1, "grey")])

    def test_what_is_not_put_over(self):
        machine = done(self.begun("row", 0), ("put", "p", 1, "p"), ("cut", "p", 1), ("put", "p", 5, "p"))
        self.assertEqual(machine.colours(), [(0, "grey"), (1, "white")])
        machine = done(self.begun("record", "a"), ("put", "p", "b", "p"), ("cut", "p", "c"), ("copy", "q", "p"))
        self.assertEqual(machine.colours(), [(0, "grey"), (1, "white")])

    def test_those_that_move_down_are_not_cut_out(self):
        machine = done(Machine(8, [0, 0, 0, 0, 0, 0, 1, 0]), ("make", "p", "row"), ("make", "q", "row"),
                       ("put", "p", 0, "q"), ("make", "q", "row"), ("put", "p", 1, "q"), ("drop", "q"), REST)
        self.assertEqual(machine.colours(), [(0, "grey"), (1, "white"), (2, "white")])
        machine.do(("cut", "p", 0))
        self.assertEqual(machine.colours(), [(0, "grey"), (1, "grey"), (2, "white")])

    def test_a_young_one_put_over_has_no_colour(self):
        machine = done(self.begun("record", "a"), ("make", "r", "row"), ("put", "p", "b", "r"), ("cut", "p", "b"))
        self.assertEqual(machine.colours(), [(0, "grey"), (1, "white")])

    def test_a_part_of_a_young_one(self):
        # 1 is white; the young 2 held it for a while.
        machine = done(Machine(8, [0, 0, 0, 0, 1, 0, 0, 0]), ("make", "p", "record"), ("make", "q", "row"),
                       ("put", "p", "a", "q"), ("drop", "q"), REST, ("make", "r", "row"), ("take", "q", "p", "a"),
                       ("put", "r", 0, "q"), ("cut", "r", 0))
        self.assertEqual((machine.colours(), machine.young()), ([(0, "grey"), (1, "white")], [2]))

    def test_a_black_one_stays_black(self):
        machine = done(Machine(8, [0, 0, 0, 4, 0, 0, 0, 0]), ("make", "p", "record"), ("make", "q", "row"),
                       ("put", "p", "a", "q"), REST)
        self.assertEqual((machine.word(), machine.colours()), ("sweep", [(0, "black"), (1, "black")]))
        machine = done(Machine(8, [0, 0, 0, 3, 0, 0, 0, 0]), ("make", "p", "record"), ("make", "q", "row"),
                       ("put", "p", "a", "q"), REST, ("cut", "p", "a"))
        self.assertEqual((machine.word(), machine.colours()), ("mark", [(0, "black"), (1, "black")]))

    def test_not_at_rest(self):
        machine = done(Machine(1, [0]), ("make", "p", "record"), ("make", "q", "row"), ("put", "p", "a", "q"),
                       ("make", "r", "row"), ("cut", "p", "a"))
        self.assertEqual((machine.word(), machine.old(), machine.colours()), ("rest", [0, 1], []))

    def test_what_was_kept_when_it_began_stays(self):
        # 1 is taken out of 0 ahead of its marking, held by a name alone, and must not go.
        machine = done(self.begun("record", "a"), ("take", "q", "p", "a"), ("cut", "p", "a"), REST,
                       *[REST] * 40)
        self.assertEqual((machine.old(), machine.went()), ([0, 1], []))
        self.assertEqual(machine.do(("say", "q")), thing(1))

    def test_what_is_lost_while_it_marks_goes_a_round_later(self):
        machine = done(self.begun("record", "a"), ("cut", "p", "a"), *[REST] * 2)
        done(machine, *[REST] * (5 + 8 * 4))
        # Five steps end the round: 0, 1, none grey, none left; then a new one begins.
        self.assertEqual((machine.word(), machine.colours(), machine.went()),
                         ("mark", [(0, "grey"), (1, "white")], []))
        machine.finish()
        self.assertEqual(machine.went(), [(1, 44)])


class Finish(Case):
    def test_ahead_of_any_deed(self):
        machine = Machine(3, [1])
        self.assertIs(machine.finish(), None)
        self.assertEqual(state(machine), state(Machine(3, [1])))
        machine.do(("make", "p", "row"))
        self.assertEqual((machine.word(), machine.old()), ("mark", [0]))

    def test_behind_some(self):
        machine = done(Machine(3, [0]), ("make", "p", "row"), ("make", "q", "row"), ("drop", "p"))
        self.assertIs(machine.finish(), None)
        wanted = ([], [1], [], [(1, 0)], [(0, 2)], "rest", [], ([None, thing(1)] + [None] * 6, [(1, "row", [], 1)]))
        self.assertEqual(state(machine), wanted)
        machine.finish()
        self.assertEqual(state(machine), wanted)

    def test_two_rounds_where_one_is_on(self):
        # 0 is grey when it is dropped, so it outlives the round that is on.
        machine = done(Machine(3, [0, 1]), ("make", "p", "row"), ("say", "p"))
        self.assertEqual((machine.word(), machine.colours()), ("mark", [(0, "grey")]))
        machine.do(("drop", "p"))
        machine.finish()
        self.assertEqual((machine.word(), machine.old(), machine.went()), ("rest", [], [(0, 2)]))

    def test_where_it_sweeps(self):
        machine = done(Machine(1, [0, 0, 0, 0, 0, 0, 0, 2]), ("make", "p", "row"), ("make", "q", "row"), ("drop", "p"),
                       ("make", "r", "row"), ("drop", "q"), ("drop", "r"), REST, REST)
        self.assertEqual((machine.word(), machine.colours()), ("sweep", [(0, "white"), (1, "white")]))
        machine.finish()
        self.assertEqual((machine.word(), machine.old(), machine.went()),
                         ("rest", [], [(2, 7), (0, 7), (1, 7)]))

    def test_it_is_no_deed(self):
        machine = done(Machine(3, [0, 1]), ("make", "p", "row"))
        machine.finish()
        machine.do(REST)
        self.assertEqual(machine.word(), "mark")

    def test_refused_deeds_do_not_count(self):
        machine = done(Machine(3, [0]), ("make", "p", "row"), ("drop", "p"))
        self.refused(BadProgram, machine.do, ("go",))
        machine.finish()
        self.assertEqual(machine.went(), [(0, 1)])

    def test_just_what_is_kept_is_left(self):
        for seed in range(80):
            plain, machine = Plain(), Machine(1 + seed % 8, [seed % 4, seed % 3])
            program = mixed_program(seed)
            for at, deed in enumerate(program):
                plain.do(deed)
                machine.do(deed)
                if at % (seed % 50 + 10) == 9 or at == 119:
                    machine.finish()
                    self.assertEqual((machine.young(), machine.old()), ([], plain.kept()))
                    self.assertEqual((machine.listed(), machine.word(), machine.colours()), ([], "rest", []))
                    self.assertEqual(machine.photo(), plain.photo())


class Colours(Case):
    def test_all_old_ones_have_one_unless_it_rests(self):
        for seed in range(40):
            machine = Machine(1 + seed % 8, [1, seed % 3])
            for deed in mixed_program(seed):
                machine.do(deed)
                colours = machine.colours()
                self.assertIn(machine.word(), ("rest", "mark", "sweep"))
                self.assertEqual([row[0] for row in colours], [] if machine.word() == "rest" else machine.old())
                seen = {row[1] for row in colours}
                self.assertLessEqual(seen, {"white", "black"} | ({"grey"} if machine.word() == "mark" else set()))

    def test_what_is_told_may_be_changed(self):
        machine = done(Machine(4, [1]), ("make", "p", "row"))
        machine.colours().clear()
        self.assertEqual(machine.colours(), [(0, "grey")])


if __name__ == "__main__":
    unittest.main()
