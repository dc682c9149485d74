"""Points 6 and 10: the plain run, and machines that tell what it tells."""

import unittest

from tests.helper import MACHINES, Case, Numbers, done, machines, mixed_program, state, thing
from whokeeps.machines import Machine, run_by
from whokeeps.plain import Plain, run


class PlainRun(Case):
    def test_do_tells_what_run_tells(self):
        for seed in range(30):
            program = mixed_program(seed)
            plain = Plain()
            self.same([plain.do(deed) for deed in program], run(program))

    def test_nothing_is_let_go(self):
        plain = done(Plain(), ("make", "p", "record"), ("make", "p", "record"), ("drop", "p"), ("settle",))
        self.assertEqual((plain.reach(), plain.kept()), ([], []))
        self.assertEqual(plain.do(("make", "p", "row")), thing(2))

    def test_rising_numbers(self):
        plain = done(Plain(), ("make", "p", "record"), ("make", "q", "row"), ("make", "r", "book"),
                     ("put", "r", 1, "p"), ("put", "r", 0, "q"), ("last", "q", None), ("drop", "p"), ("drop", "q"))
        self.assertEqual((plain.reach(), plain.kept()), ([0, 1, 2], [0, 1, 2]))
        plain.do(("drop", "r"))
        self.assertEqual((plain.reach(), plain.kept()), ([], [1]))

    def test_two_heaps_beside_one_another(self):
        first, second = Plain(), Plain()
        done(first, ("make", "p", "row"), ("make", "q", "row"))
        self.assertEqual((second.reach(), second.do(("say", "p"))), ([], None))
        self.assertEqual(second.do(("make", "p", "book")), thing(0))
        self.assertEqual(first.reach(), [0, 1])


class Alike(Case):
    def test_each_program_by_all_machines(self):
        for seed in range(150):
            program = mixed_program(seed)
            told = run(program)
            for young, steps in MACHINES:
                self.same(run_by(program, young, steps), told)

    def test_each_young_room_and_many_steps(self):
        numbers = Numbers(77)
        for seed in range(200, 240):
            program = mixed_program(seed)
            told = run(program)
            for young in range(1, 9):
                steps = [numbers.below(31) if numbers.below(2) else numbers.below(3)
                         for _ in range(1 + numbers.below(8))]
                self.same(run_by(program, young, steps), told)

    def test_the_programs_are_worth_it(self):
        # They take things, settle last deeds, ask watches and let things go, else they would show little.
        many = {"done": 0, "take": 0, "ask": 0, "blind": 0, "settle": 0, "gone": 0}
        for seed in range(150):
            program = mixed_program(seed)
            for deed, told in zip(program, run(program)):
                many["done"] += told != "no"
                if deed[0] in ("take", "ask") and isinstance(told, tuple):
                    many[deed[0]] += 1
                many["blind"] += deed[0] == "ask" and told is None
                many["settle"] += deed[0] == "settle" and len(told) > 0
            many["gone"] += len(done(Machine(2, [2]), *program).went())
        least = {"done": 9000, "take": 500, "ask": 200, "blind": 50, "settle": 100, "gone": 1000}
        for word, number in least.items():
            self.assertGreater(many[word], number, word)

    def test_what_goes_is_not_kept_ever_after_and_goes_once(self):
        for seed in range(50):
            program = mixed_program(seed)
            plain, beside = Plain(), machines()
            for deed in program:
                plain.do(deed)
                kept = set(plain.kept())
                for machine in beside:
                    machine.do(deed)
                    went = [row[0] for row in machine.went()]
                    self.assertEqual(len(set(went)), len(went))
                    self.assertFalse(kept & set(went))
                    self.assertLessEqual(kept, set(machine.young() + machine.old()))

    def test_machines_beside_one_another(self):
        program = mixed_program(5)
        alone = done(Machine(2, [1]), *program)
        first, second, other = Machine(2, [1]), Machine(2, [1]), Machine(7, [3])
        for at, deed in enumerate(program):
            first.do(deed)
            done(other, *mixed_program(at)[:5])
            other.finish()
        self.assertEqual(state(first), state(alone))
        self.assertEqual(state(second), state(Machine(2, [1])))
        self.assertEqual(state(done(second, *program)), state(alone))

    def test_asked_again_the_same(self):
        machine = done(Machine(2, [1]), *mixed_program(8))
        self.assertEqual(state(machine), state(machine))


if __name__ == "__main__":
    unittest.main()
