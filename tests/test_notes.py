"""Point 18: programs as texts."""

import copy
import unittest

from tests.helper import NAMES, Case, mixed_program
from whokeeps.errors import BadProgram, BadText
from whokeeps.notes import read, written

# Each word with what its parts may be.
PAIRS = [
    (("make", "p", "record"), "make p record"),
    (("make", "q", "row"), "make q row"),
    (("make", "w", "book"), "make w book"),
    (("num", "p", 0), "num p 0"),
    (("num", "p", 7), "num p 7"),
    (("num", "p", 10), "num p 10"),
    (("num", "p", 99), "num p 99"),
    (("copy", "r", "s"), "copy r s"),
    (("drop", "t"), "drop t"),
    (("put", "p", "a", "q"), "put p a q"),
    (("put", "p", "d", "p"), "put p d p"),
    (("put", "p", 0, "q"), "put p 0 q"),
    (("put", "p", 9, "q"), "put p 9 q"),
    (("take", "q", "p", 3), "take q p 3"),
    (("take", "q", "p", "b"), "take q p b"),
    (("cut", "u", "c"), "cut u c"),
    (("cut", "u", 8), "cut u 8"),
    (("watch", "v", "w"), "watch v w"),
    (("last", "p", None), "last p -"),
    (("last", "p", "p"), "last p p"),
    (("last", "w", "q"), "last w q"),
    (("ask", "p", "q"), "ask p q"),
    (("settle",), "settle"),
    (("say", "p"), "say p"),
]

NO_ROWS = [
    # Words, parts and how many of them.
    "", " ", "x", "Say p", "SAY p", "says p", "say", "say x", "say P", "say p q", "say pq", "say -", "say 0",
    "settle p", "settle -", "settle settle", "p", "-", "make p", "make p none", "make p watch", "make p Record",
    "make record p", "make p record q", "make x record", "copy p", "copy p q r", "copy p x", "copy p 1",
    "copy p -", "drop", "drop p q", "drop -", "watch p", "watch p q r", "watch p 0", "ask p", "ask q p p",
    "last p", "last p p p", "last p x", "last p None", "last p --", "last p 0", "last - p", "last p - -",
    "put p a", "put p a q r", "put p e q", "put a p q", "put p p q", "put p - q", "put p a -", "take q p",
    "take q 3 p", "take q p e", "take q p -", "cut p", "cut p e", "cut p a q", "cut p ab", "num p", "num p q",
    "num p a", "num p 1 2", "num p -", "num 1 p",
    # Needless figures and numbers beyond their bounds.
    "num p 07", "num p 00", "num p +1", "num p -0", "num p -1", "num p +0", "num p 100", "num p 099", "num p 1.0",
    "num p 1_0", "num p 0x1", "num p " + "9" * 5000, "cut p 10", "cut p 00", "cut p 03", "cut p -1", "cut p +1",
    "cut p 99", "put p 10 q", "put p 01 q", "take q p 10", "take q p +3",
    # Blanks.
    " say p", "say p ", "say  p", "settle ", " settle", "last p  -", "num p  7", "num  p 7", "num p 7 ", " num p 7",
    "  ", "last p ", "last p -  ",
    # Other signs.
    "say\tp", "say p\r", "say_p", "say,p", "say p;", "say p.", "(say p)", "'say' p", "num p '7'", "~", "say ~", "!",
    "last p ~", "num p #", "num p \u0667", "num p \u00b2", "say\u00a0p", "say p\u2028", "say p\x0c", "say p\x00",
]


class Written(Case):
    def test_each_deed(self):
        for deed, row in PAIRS:
            self.same(written([deed]), row)

    def test_a_deed_in_each_row(self):
        self.same(written([("put", "p", "a", "q"), ("take", "q", "p", 3), ("last", "p", None), ("settle",)]),
                  "put p a q\ntake q p 3\nlast p -\nsettle")

    def test_no_deeds(self):
        self.same(written([]), "")

    def test_120_and_121_deeds(self):
        self.same(written([("settle",)] * 120), "\n".join(["settle"] * 120))
        self.assertEqual(self.refused(BadProgram, written, [("settle",)] * 121).place, 120)

    def test_programs_that_are_none(self):
        for wrong in (("settle", "p"), (), ("say",), ("say", "x"), ("num", "p", 100), ("num", "p", True),
                      ("num", "p", "7"), ("cut", "p", "3"), ("last", "p", "-"), ("last", "p"), ["settle"], "settle",
                      None, ("", "p"), ("make", "p", "watch")):
            self.assertEqual(self.refused(BadProgram, written, [wrong]).place, 0)
            self.assertEqual(self.refused(BadProgram, written, [("settle",)] * 3 + [wrong] * 2).place, 3)
        self.assertEqual(self.refused(BadProgram, written, [("settle",)] * 119 + [()] * 9).place, 119)

    def test_programs_stay_as_they_are(self):
        program = [deed for deed, _ in PAIRS]
        before = copy.deepcopy(program)
        text = written(program)
        self.same(program, before)
        self.same(written(program), text)


class Read(Case):
    def test_each_row(self):
        for deed, row in PAIRS:
            self.same(read(row), [deed])

    def test_a_deed_in_each_row(self):
        self.same(read("put p a q\ntake q p 3\nlast p -\nsettle"),
                  [("put", "p", "a", "q"), ("take", "q", "p", 3), ("last", "p", None), ("settle",)])

    def test_no_deeds(self):
        self.same(read(""), [])

    def test_rows_that_are_no_deed(self):
        for row in NO_ROWS:
            for ahead in (0, 1, 5):
                text = "\n".join(["last p -"] * ahead + [row] + ["settle"])
                self.assertEqual(self.refused(BadText, read, text).row, ahead, row)
            if row:
                self.assertEqual(self.refused(BadText, read, row).row, 0, row)

    def test_an_empty_row_and_a_line_end_at_the_end(self):
        self.assertEqual(self.refused(BadText, read, "\n").row, 0)
        self.assertEqual(self.refused(BadText, read, "\nsettle").row, 0)
        self.assertEqual(self.refused(BadText, read, "settle\n").row, 1)
        self.assertEqual(self.refused(BadText, read, "settle\n\nsettle").row, 1)
        self.assertEqual(self.refused(BadText, read, "settle\nsettle\n\n").row, 2)

    def test_other_line_ends_are_none(self):
        for end in ("\r\n", "\r", "\x0b", "\x0c", "\x1c", "\x85", "\u2028"):
            self.assertEqual(self.refused(BadText, read, "settle" + end + "settle").row, 0)

    def test_the_first_one_is_told(self):
        self.assertEqual(self.refused(BadText, read, "settle\nsay x\nsettle\nsay y").row, 1)

    def test_120_and_121_rows(self):
        self.same(read("\n".join(["say p"] * 120)), [("say", "p")] * 120)
        for last in ("say p", "", "x"):
            self.assertEqual(self.refused(BadText, read, "\n".join(["say p"] * 120 + [last])).row, 120)
        self.assertEqual(self.refused(BadText, read, "\n".join(["say p"] * 500)).row, 120)
        self.assertEqual(self.refused(BadText, read, "\n".join(["say p"] * 119 + ["x"] * 9)).row, 119)
        self.assertEqual(self.refused(BadText, read, "\n".join(["say p"] * 70 + ["x"] + ["say p"] * 60)).row, 70)

    def test_each_figure(self):
        for number in range(100):
            self.same(read(f"num p {number}"), [("num", "p", number)])
            self.same(written([("num", "p", number)]), f"num p {number}")
        for part in range(10):
            self.same(read(f"cut p {part}"), [("cut", "p", part)])

    def test_what_is_told_may_be_changed(self):
        text = "say p\nsettle"
        told = read(text)
        told.clear()
        self.same(read(text), [("say", "p"), ("settle",)])
        self.refused(BadText, read, text + "\n")
        self.same(read(text), [("say", "p"), ("settle",)])


class Both(Case):
    def test_what_is_written_is_read_to_the_same_program(self):
        for seed in range(60):
            program = mixed_program(seed, 2 * seed + 1)
            self.same(read(written(program)), program)
        program = [deed for deed, _ in PAIRS]
        self.same(read(written(program)), program)
        self.same(read(written([])), [])

    def test_each_name_at_each_place(self):
        for name in NAMES:
            program = [("make", name, "row"), ("num", name, 1), ("copy", name, name), ("drop", name),
                       ("put", name, 1, name), ("take", name, name, "a"), ("cut", name, 0), ("watch", name, name),
                       ("last", name, name), ("last", name, None), ("ask", name, name), ("say", name)]
            self.same(read(written(program)), program)


if __name__ == "__main__":
    unittest.main()
