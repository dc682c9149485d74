"""The interface: which file defines what, and the errors."""

import unittest

import whokeeps.errors as errors
import whokeeps.machines as machines
import whokeeps.plain as plain
from tests.helper import Case


class Interface(Case):
    def test_classes_define_their_methods(self):
        listed = {
            plain.Plain: ("do", "reach", "kept", "photo"),
            machines.Machine: ("do", "young", "old", "listed", "places", "went", "colours", "word",
                               "finish", "photo"),
        }
        for owner, names in listed.items():
            for name in names:
                self.assertIn(name, vars(owner))

    def test_each_name_is_defined_in_its_file(self):
        for module, name in ((plain, "Plain"), (plain, "run"), (machines, "Machine"), (machines, "run_by")):
            self.assertEqual(getattr(module, name).__module__, module.__name__)

    def test_arguments_have_their_names(self):
        self.assertEqual(plain.run(program=[("settle",)]), [[]])
        self.assertEqual(machines.run_by(program=[("settle",)], young=1, steps=[0]), [[]])
        self.assertEqual(machines.Machine(young=1, steps=[0]).do(deed=("say", "p")), None)
        self.assertEqual(plain.Plain().do(deed=("say", "p")), None)


class Errors(Case):
    def test_all_are_refusals(self):
        self.assertTrue(issubclass(errors.WhoError, ValueError))
        for name in ("BadProgram", "BadYoung", "BadSteps", "NoThing", "BadTimes", "BadPhotos", "BadText"):
            error = getattr(errors, name)
            self.assertEqual(error.__bases__, (errors.WhoError,))
            self.assertEqual(error.__module__, "whokeeps.errors")

    def test_they_carry_their_values(self):
        self.assertEqual(errors.BadProgram(7).place, 7)
        self.assertEqual(errors.BadText(9).row, 9)


if __name__ == "__main__":
    unittest.main()
