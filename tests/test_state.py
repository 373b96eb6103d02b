"""state."""

import unittest

from lines import GREATEST, ask, ask_last, furnished

ROOM = furnished(10, 45, 20, [(12, 18), (30, 41)], [(3, 9)])

# Behind ROOM: a call that is not refused, and the state then.
CHANGES = (
    (("door", 0, 45), [10, 45, 20, 3, 1, 4]),
    (("side", 0, 20), [10, 45, 20, 2, 2, 4]),
    (("undoor", 0), [10, 45, 20, 1, 1, 4]),
    (("unside", 0), [10, 45, 20, 2, 0, 4]),
    (("wide", 60), [60, 45, 20, 2, 1, 4]),
    (("wide", 10), [10, 45, 20, 2, 1, 4]),
    (("room", 41, 9), [10, 41, 9, 2, 1, 4]),
    (("room", 45, 20), [10, 45, 20, 2, 1, 4]),
    (("turn",), [10, 20, 45, 1, 2, 4]),
    (("back",), [10, 45, 20, 2, 0, 2]),
    (("begin", 7, 8, 9), [7, 8, 9, 0, 0, 0]),
)
QUESTIONS = (
    ("seams", 3), ("strips", 3), ("clear", 3), ("firsts",), ("best",), ("fewest",), ("way_round",), ("widths", 1, 60),
    ("best_width", 1, 60), ("could", 1, 2), ("widest", 3), ("hits", 3), ("state",),
)
REFUSED = (
    (("begin", 0, 1, 1), -22), (("begin", 1, 201, 1), -22), (("begin", 1, 1, GREATEST), -22),
    (("door", 5, 5), -22), (("door", 0, 46), -22), (("side", 6, 5), -22), (("side", 0, 21), -22),
    (("undoor", 2), -2), (("unside", 1), -2), (("undoor", GREATEST), -2), (("wide", 0), -22), (("wide", 61), -22),
    (("room", 0, 20), -22), (("room", 45, 201), -22), (("room", 40, 20), -16), (("room", 45, 8), -16),
    (("seams", 0), -22), (("strips", 11), -22), (("clear", GREATEST), -22), (("hits", 0), -22), (("best",), -33),
    (("fewest",), -33), (("widths", 0, 1), -22), (("best_width", 2, 1), -22), (("best_width", 1, 1), -33),
    (("could", 1, 1), -22), (("widest", 45), -22), (("widest", 44), -33),
)


class State(unittest.TestCase):
    def test_behind_a_begin(self):
        self.assertEqual(ask(("begin", 60, 200, 1), ("state",)), [[0], [60, 200, 1, 0, 0, 0]])
        self.assertEqual(ask(("begin", 1, 1, 200), ("state",)), [[0], [1, 1, 200, 0, 0, 0]])

    def test_ahead_of_a_begin(self):
        told = ask(("state",), ("begin", 0, 1, 1), ("state",), ("begin", 2, 3, 4), ("state",))
        self.assertEqual(told, [[-61], [-22], [-61], [0], [2, 3, 4, 0, 0, 0]])

    def test_of_a_room_with_all(self):
        self.assertEqual(ask_last(*ROOM, ("state",)), [10, 45, 20, 2, 1, 3])
        full = furnished(10, 45, 20, [(i, i + 1) for i in range(5)], [(i, i + 1) for i in range(5)])
        self.assertEqual(ask_last(*full, ("state",)), [10, 45, 20, 5, 5, 10])
        self.assertEqual(ask_last(*full, ("wide", 3), ("state",)), [3, 45, 20, 5, 5, 10])

    def test_behind_each_kind_of_change(self):
        for call, state in CHANGES:
            self.assertEqual(ask_last(*ROOM, call, ("state",)), state, call)

    def test_behind_each_kind_of_change_taken_back(self):
        for call, state in CHANGES[:-2]:
            self.assertEqual(ask_last(*ROOM, call, ("back",), ("state",)), [10, 45, 20, 2, 1, 3], call)

    def test_behind_refusals(self):
        for call, refusal in REFUSED:
            told = ask(*ROOM, call, ("state",))[4:]
            self.assertEqual(told, [[refusal], [10, 45, 20, 2, 1, 3]], call)
        told = ask(*ROOM, *[call for call, refusal in REFUSED], ("state",))[4:]
        self.assertEqual(told, [[refusal] for call, refusal in REFUSED] + [[10, 45, 20, 2, 1, 3]])

    def test_behind_a_refused_sixth_and_a_refused_back(self):
        full = furnished(10, 45, 20, [(i, i + 1) for i in range(5)])
        self.assertEqual(ask(*full, ("door", 7, 8), ("state",))[6:], [[-28], [10, 45, 20, 5, 0, 5]])
        self.assertEqual(ask(("begin", 1, 2, 3), ("back",), ("state",))[1:], [[-2], [1, 2, 3, 0, 0, 0]])

    def test_behind_questions(self):
        before = [("begin", 10, 45, 20), ("door", 12, 18), ("side", 3, 9), ("turn",)]
        for call in QUESTIONS:
            told = ask(*before, call, ("state",))[4:]
            self.assertGreaterEqual(told[0][0], 0, call)
            self.assertEqual(told[1], [10, 20, 45, 1, 1, 3], call)

    def test_behind_more_than_10_changes(self):
        for count in range(1, 30):
            calls = [("begin", 10, 45, 20)] + [("wide", w + 1) for w in range(count)]
            told = ask(*calls, ("state",), ("back",), ("state",))
            self.assertEqual(told[-3], [count, 45, 20, 0, 0, min(count, 10)])
            self.assertEqual(told[-1], [count - 1 or 10, 45, 20, 0, 0, min(count, 10) - 1])

    def test_back_to_back(self):
        told = ask(*ROOM, *[("back",), ("state",)] * 4)[4:]
        self.assertEqual(told, [
            [2], [10, 45, 20, 2, 0, 2], [1], [10, 45, 20, 1, 0, 1],
            [0], [10, 45, 20, 0, 0, 0], [-2], [10, 45, 20, 0, 0, 0],
        ])

    def test_of_a_mixed_line_taken_back_step_by_step(self):
        calls = [
            ("door", 12, 18), ("turn",), ("side", 30, 41), ("wide", 7), ("door", 1, 20), ("turn",), ("undoor", 1),
            ("room", 50, 60), ("unside", 0), ("turn",), ("wide", 7), ("turn",),
        ]
        before = [("begin", 10, 45, 20)]
        states = [ask_last(*before, *calls[:count], ("state",)) for count in range(len(calls) + 1)]
        told = ask(*before, *calls, *[("back",), ("state",)] * 11)[13:]
        self.assertEqual(told[0::2], [[left] for left in reversed(range(10))] + [[-2]])
        expected = [state[:5] for state in reversed(states[2:-1])]
        self.assertEqual([state[:5] for state in told[1::2]], expected + expected[-1:])


if __name__ == "__main__":
    unittest.main()
