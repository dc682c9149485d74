"""Points 4 and 5: when all watches are told, and settle."""

import unittest

from tests.helper import Case, done, machines, thing
from whokeeps.plain import Plain


def sees(heap, number):
    """What a photo says that a watch sees."""
    return [row[2] for row in heap.photo()[1] if row[0] == number][0][0][1]


class Told(Case):
    def test_a_watch_is_told_by_ask_or_settle_only(self):
        for heap in [Plain()] + machines():
            done(heap, ("make", "p", "row"), ("watch", "q", "p"), ("drop", "p"), ("say", "q"), ("make", "r", "row"))
            self.assertEqual(sees(heap, 1), thing(0))
            heap.do(("settle",))
            self.assertEqual(sees(heap, 1), None)

    def test_asking_one_watch_tells_all(self):
        for heap in [Plain()] + machines():
            done(heap, ("make", "p", "row"), ("watch", "q", "p"), ("make", "r", "row"), ("watch", "s", "r"),
                 ("drop", "p"))
            self.assertEqual(heap.do(("ask", "t", "s")), thing(2))
            self.assertEqual((sees(heap, 1), sees(heap, 3)), (None, thing(2)))

    def test_a_watch_sees_none_for_ever(self):
        self.tells((("make", "p", "record"), thing(0)), (("watch", "q", "p"), thing(1)), (("last", "p", "r"), None),
                   (("drop", "p"), None), (("ask", "s", "q"), None), (("settle",), [0]), (("say", "r"), thing(0)),
                   (("ask", "s", "q"), None), (("watch", "t", "r"), thing(2)), (("ask", "s", "t"), thing(0)),
                   (("ask", "s", "q"), None))

    def test_settle_tells_watches_ahead_of_last_deeds(self):
        self.tells((("make", "p", "record"), thing(0)), (("watch", "q", "p"), thing(1)), (("last", "p", "p"), None),
                   (("drop", "p"), None), (("settle",), [0]), (("say", "p"), thing(0)), (("ask", "s", "q"), None))

    def test_a_watch_out_of_reach_is_told_too(self):
        # The watch is kept by what is due; it comes back into reach with it, blind.
        self.tells((("make", "p", "record"), thing(0)), (("make", "q", "record"), thing(1)),
                   (("watch", "r", "q"), thing(2)), (("put", "p", "a", "r"), None), (("put", "p", "b", "q"), None),
                   (("last", "p", "s"), None), (("drop", "r"), None), (("drop", "q"), None), (("drop", "p"), None),
                   (("settle",), [0]), (("take", "t", "s", "b"), thing(1)), (("take", "u", "s", "a"), thing(2)),
                   (("ask", "v", "u"), None))

    def test_a_watch_out_of_reach_when_none_are_told_still_sees(self):
        self.tells((("make", "p", "record"), thing(0)), (("make", "q", "row"), thing(1)),
                   (("watch", "r", "q"), thing(2)), (("put", "p", "a", "r"), None), (("drop", "r"), None),
                   (("take", "r", "p", "a"), thing(2)), (("ask", "s", "r"), thing(1)))

    def test_a_watch_does_not_hold_nor_keep(self):
        self.tells((("make", "p", "book"), thing(0)), (("watch", "q", "p"), thing(1)), (("watch", "r", "q"), thing(2)),
                   (("drop", "q"), None), (("ask", "s", "r"), None), (("say", "s"), None))


class Settle(Case):
    def test_nothing_to_settle(self):
        self.tells((("settle",), []), (("make", "p", "row"), thing(0)), (("settle",), []), (("drop", "p"), None),
                   (("settle",), []))

    def test_what_is_in_reach_is_not_done(self):
        self.tells((("make", "p", "row"), thing(0)), (("last", "p", None), None), (("settle",), []),
                   (("copy", "q", "p"), None), (("drop", "p"), None), (("settle",), []), (("drop", "q"), None),
                   (("settle",), [0]), (("settle",), []))

    def test_rising_and_once(self):
        self.tells((("make", "p", "row"), thing(0)), (("make", "q", "book"), thing(1)),
                   (("make", "r", "record"), thing(2)), (("last", "r", None), None), (("last", "q", None), None),
                   (("last", "p", None), None), (("drop", "q"), None), (("drop", "r"), None), (("settle",), [1, 2]),
                   (("drop", "p"), None), (("settle",), [0]), (("settle",), []))

    def test_the_last_of_one_goal_stays(self):
        self.tells((("make", "p", "row"), thing(0)), (("last", "p", "w"), None), (("make", "p", "row"), thing(1)),
                   (("last", "p", "w"), None), (("drop", "p"), None), (("settle",), [0, 1]), (("say", "w"), thing(1)))

    def test_all_out_of_reach_at_once_do_it(self):
        # The first one's goal brings the second one back; it does its own in the same turn.
        self.tells((("make", "p", "record"), thing(0)), (("make", "q", "record"), thing(1)),
                   (("put", "p", "a", "q"), None), (("last", "p", "r"), None), (("last", "q", "s"), None),
                   (("drop", "p"), None), (("drop", "q"), None), (("settle",), [0, 1]), (("say", "r"), thing(0)),
                   (("say", "s"), thing(1)))

    def test_a_goal_may_put_another_out_of_reach(self):
        # By its goal 2 takes the name from 0, that one then from 1: three turns.
        self.tells((("make", "p", "row"), thing(0)), (("last", "p", "q"), None), (("make", "q", "row"), thing(1)),
                   (("last", "q", None), None), (("make", "r", "row"), thing(2)), (("last", "r", "p"), None),
                   (("drop", "r"), None), (("settle",), [2, 0, 1]), (("say", "p"), thing(2)),
                   (("say", "q"), thing(0)), (("settle",), []))

    def test_a_goal_may_take_the_way_to_what_it_held(self):
        self.tells((("make", "p", "record"), thing(0)), (("make", "q", "record"), thing(1)),
                   (("put", "p", "a", "q"), None), (("last", "q", None), None), (("make", "q", "row"), thing(2)),
                   (("last", "q", "p"), None), (("drop", "q"), None), (("settle",), [2, 1]), (("say", "p"), thing(2)))

    def test_watches_are_told_ahead_of_each_turn(self):
        self.tells((("make", "p", "row"), thing(0)), (("last", "p", "s"), None), (("watch", "q", "p"), thing(1)),
                   (("make", "r", "row"), thing(2)), (("last", "r", "p"), None), (("drop", "r"), None),
                   (("settle",), [2, 0]), (("say", "s"), thing(0)), (("ask", "t", "q"), None))

    def test_behind_settle_no_watch_sees_a_thing_out_of_reach(self):
        for heap in [Plain()] + machines():
            done(heap, ("make", "p", "row"), ("watch", "q", "p"), ("make", "r", "row"), ("last", "r", "p"),
                 ("drop", "r"))
            self.assertEqual(heap.do(("settle",)), [2])
            self.assertEqual(sees(heap, 1), None)

    def test_what_a_done_one_held_is_let_loose(self):
        plain = done(Plain(), ("make", "p", "record"), ("make", "q", "row"), ("put", "p", "a", "q"),
                     ("last", "p", None), ("drop", "p"), ("drop", "q"))
        self.assertEqual(plain.kept(), [0, 1])
        plain.do(("settle",))
        self.assertEqual(plain.kept(), [])


if __name__ == "__main__":
    unittest.main()
