"""The interface: which file defines what, and the errors."""

import unittest

import whokeeps.compared as compared
import whokeeps.errors as errors
import whokeeps.keepers as keepers
import whokeeps.machines as machines
import whokeeps.notes as notes
import whokeeps.plain as plain
from tests.helper import Case, rows_photo


class Interface(Case):
    def test_classes_define_their_methods(self):
        listed = {
            plain.Plain: ("do", "reach", "kept", "photo"),
            machines.Machine: ("do", "young", "old", "listed", "places", "went", "colours", "word",
                               "finish", "photo"),
        }
        for owner, names in listed.items():
            for name in names:
                self.assertIn(name, vars(owner))

    def test_each_name_is_defined_in_its_file(self):
        listed = {
            plain: ("Plain", "run"),
            machines: ("Machine", "run_by"),
            keepers: ("way", "keeps", "masters", "totals", "total"),
            compared: ("compared", "growing", "leak"),
            notes: ("written", "read"),
        }
        for module, names in listed.items():
            for name in names:
                self.assertEqual(getattr(module, name).__module__, module.__name__)

    def test_arguments_have_their_names(self):
        self.assertEqual(plain.run(program=[("settle",)]), [[]])
        self.assertEqual(machines.run_by(program=[("settle",)], young=1, steps=[0]), [[]])
        self.assertEqual(machines.Machine(young=1, steps=[0]).do(deed=("say", "p")), None)
        self.assertEqual(plain.Plain().do(deed=("say", "p")), None)
        photo = rows_photo({"p": 0}, {0: []})
        self.assertEqual(keepers.way(photo=photo, number=0), ["p"])
        self.assertEqual(keepers.keeps(photo=photo, number=0), [0])
        self.assertEqual(keepers.total(photo=photo, number=0), 1)
        self.assertEqual(keepers.masters(photo=photo), [(0, None)])
        self.assertEqual(keepers.totals(photo=photo), [(0, 1)])
        self.assertEqual(compared.compared(before=photo, after=photo), ([], [], []))
        self.assertEqual(len(compared.growing(first=[], again=[], many=2)), 2)
        self.assertEqual(compared.leak(photos=[photo, photo]), [])
        self.assertEqual(notes.written(program=[("settle",)]), "settle")
        self.assertEqual(notes.read(text="settle"), [("settle",)])


class Errors(Case):
    def test_all_are_refusals(self):
        self.assertTrue(issubclass(errors.WhoError, ValueError))
        for name in ("BadProgram", "BadYoung", "BadSteps", "NoThing", "BadTimes", "BadPhotos", "BadText"):
            error = getattr(errors, name)
            self.assertEqual(error.__bases__, (errors.WhoError,))
            self.assertEqual(error.__module__, "whokeeps.errors")

    def test_they_carry_their_values(self):
        self.assertEqual(errors.BadProgram(7).place, 7)
        self.assertEqual(errors.BadText(9).row, 9)


if __name__ == "__main__":
    unittest.main()
