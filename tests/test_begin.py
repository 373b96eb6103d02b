"""begin, and what is answered till it is answered 0."""

import unittest

from lines import CALLS, GREATEST, ask, ask_last, assert_refused

OTHERS = [call for call in CALLS if call[0] != "begin"]
WRONG_BEGINS = [
    ("begin", 0, 10, 10), ("begin", 61, 10, 10), ("begin", GREATEST, 10, 10),
    ("begin", 5, 0, 10), ("begin", 5, 201, 10), ("begin", 5, GREATEST, 10),
    ("begin", 5, 10, 0), ("begin", 5, 10, 201), ("begin", 5, 10, GREATEST),
    ("begin", 0, 0, 0), ("begin", GREATEST, GREATEST, GREATEST),
]


class Begin(unittest.TestCase):
    def test_is_answered_0(self):
        for numbers in ((5, 10, 12), (1, 1, 1), (60, 200, 200), (60, 1, 1), (1, 200, 1), (1, 1, 200)):
            self.assertEqual(ask(("begin",) + numbers), [[0]])

    def test_makes_the_room_as_told(self):
        told = ask(("begin", 5, 12, 30), ("strips", 4), ("room", 20, 20), ("wide", 7))
        self.assertEqual(told, [[0], [3, 3, 3, 450], [12, 30], [5]])

    def test_refuses_what_is_not_as_told(self):
        for call in WRONG_BEGINS:
            self.assertEqual(ask(call), [[-22]], call)

    def test_refused_behind_a_begin_changes_nothing(self):
        before = [("begin", 7, 30, 20), ("door", 3, 9), ("side", 2, 11), ("wide", 6)]
        for call in WRONG_BEGINS:
            assert_refused(self, before, call, -22)

    def test_behind_a_begin_has_no_doors_and_no_sides(self):
        before = [("begin", 7, 30, 20), ("door", 0, 30), ("side", 0, 20), ("begin", 7, 30, 20)]
        self.assertEqual(ask_last(*before, ("undoor", 0)), [-2])
        self.assertEqual(ask_last(*before, ("unside", 0)), [-2])
        self.assertEqual(ask_last(*before, ("door", 0, 1)), [0])
        self.assertEqual(ask_last(*before, ("side", 0, 1)), [0])
        self.assertEqual(ask_last(*before, ("clear", 1)), [1])
        self.assertEqual(ask_last(*before, ("room", 1, 1)), [30, 20])

    def test_behind_a_begin_has_nothing_to_take_back(self):
        before = [("begin", 7, 30, 20), ("door", 0, 30), ("wide", 3), ("begin", 7, 30, 20)]
        self.assertEqual(ask_last(*before, ("back",)), [-2])
        self.assertEqual(ask(*before, ("wide", 9), ("back",), ("back",))[-2:], [[0], [-2]])


class NotBegun(unittest.TestCase):
    def test_every_other_call_is_answered_61(self):
        for name, count in OTHERS:
            for number in (0, 1, GREATEST):
                self.assertEqual(ask((name,) + (number,) * count), [[-61]], name)

    def test_a_refused_begin_is_none(self):
        for name, count in OTHERS:
            told = ask(("begin", 5, 0, 10), (name,) + (1,) * count, ("begin", 61, 1, 1), (name,) + (1,) * count)
            self.assertEqual(told, [[-22], [-61], [-22], [-61]], name)

    def test_calls_ahead_of_begin_leave_nothing(self):
        ahead = [("door", 0, 10), ("side", 0, 10), ("wide", 3), ("room", 7, 7)]
        told = ask(*ahead, ("begin", 5, 10, 12), ("undoor", 0), ("unside", 0), ("back",), ("strips", 5))
        self.assertEqual(told, [[-61]] * 4 + [[0], [-2], [-2], [-2], [2, 5, 5, 120]])


if __name__ == "__main__":
    unittest.main()
