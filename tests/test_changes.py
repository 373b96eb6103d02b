"""wide, room and back."""

import unittest

from lines import GREATEST, ask, ask_last, assert_refused

ROOM = ("begin", 10, 40, 30)
FURNISHED = [ROOM, ("door", 3, 25), ("side", 2, 11), ("door", 0, 7), ("side", 8, 20)]


class Wide(unittest.TestCase):
    def test_answers_how_wide_they_were(self):
        told = ask(ROOM, ("wide", 7), ("wide", 60), ("wide", 1), ("wide", 1), ("seams", 1))
        self.assertEqual(told[:5], [[0], [10], [7], [60], [1]])
        self.assertEqual(told[5], [39] + list(range(1, 40)))

    def test_not_1_to_60(self):
        for w in (0, 61, GREATEST):
            assert_refused(self, FURNISHED, ("wide", w), -22)

    def test_leaves_the_room_as_it_was(self):
        told = ask(*FURNISHED, ("wide", 7), ("room", 25, 20), ("undoor", 1), ("unside", 1))
        self.assertEqual(told[5:], [[10], [40, 30], [1], [1]])


class Room(unittest.TestCase):
    def test_answers_what_it_was(self):
        told = ask(ROOM, ("room", 1, 200), ("room", 200, 1), ("room", 25, 26), ("strips", 5))
        self.assertEqual(told, [[0], [40, 30], [1, 200], [200, 1], [3, 10, 5, 780]])

    def test_not_1_to_200(self):
        for across, along in ((0, 30), (201, 30), (GREATEST, 30), (40, 0), (40, 201), (40, GREATEST), (0, 0)):
            assert_refused(self, FURNISHED, ("room", across, along), -22)

    def test_a_door_would_end_beyond_its_wall(self):
        assert_refused(self, FURNISHED, ("room", 24, 30), -16)
        assert_refused(self, FURNISHED, ("room", 1, 200), -16)
        self.assertEqual(ask_last(*FURNISHED, ("room", 25, 30)), [40, 30])

    def test_a_side_would_end_beyond_its_wall(self):
        assert_refused(self, FURNISHED, ("room", 40, 19), -16)
        assert_refused(self, FURNISHED, ("room", 200, 1), -16)
        self.assertEqual(ask_last(*FURNISHED, ("room", 40, 20)), [40, 30])

    def test_each_kind_has_its_own_wall(self):
        self.assertEqual(ask_last(ROOM, ("door", 3, 35), ("room", 35, 1)), [40, 30])
        self.assertEqual(ask_last(ROOM, ("side", 3, 28), ("room", 1, 28)), [40, 30])

    def test_not_as_told_comes_ahead_of_beyond_its_wall(self):
        for across, along in ((1, 201), (201, 1), (0, 30), (40, 0)):
            assert_refused(self, FURNISHED, ("room", across, along), -22)

    def test_one_that_is_gone_is_no_hindrance(self):
        told = ask(*FURNISHED, ("undoor", 0), ("unside", 1), ("room", 7, 11))
        self.assertEqual(told[5:], [[1], [1], [40, 30]])

    def test_leaves_doors_and_sides_as_they_were(self):
        before = [ROOM, ("door", 12, 18), ("door", 30, 32), ("side", 1, 9), ("room", 32, 9)]
        told = ask(*before, *[("clear", o) for o in range(1, 11)], ("undoor", 1), ("unside", 1))
        self.assertEqual(told[5:15], [[0] if o in (1, 3, 4, 5, 6, 7) else [1] for o in range(1, 11)])
        self.assertEqual(told[15:], [[1], [-2]])
        self.assertEqual(ask_last(*before, ("room", 31, 9)), [-16])
        self.assertEqual(ask_last(*before, ("room", 32, 8)), [-16])

    def test_a_greater_one_takes_more_doors(self):
        told = ask(ROOM, ("door", 3, 41), ("side", 3, 41), ("room", 41, 41), ("door", 3, 41), ("side", 3, 41))
        self.assertEqual(told, [[0], [-22], [-22], [40, 30], [0], [0]])


class Back(unittest.TestCase):
    def assert_taken_back(self, call):
        """What is asked behind the call and a back is answered as if neither had been."""
        looks = [
            [("clear", o) for o in range(1, 11)] + [("strips", o) for o in range(1, 11)] + [("seams", 1)],
            [("undoor", 0), ("room", 7, 200), ("undoor", 0), ("undoor", 0)],
            [("undoor", 0)] + [("clear", o) for o in range(1, 11)],
            [("unside", 0), ("room", 200, 19), ("unside", 0), ("unside", 0)],
            [("room", 24, 30), ("room", 40, 19), ("room", 25, 20), ("wide", 1)],
            [("back",)] * 5,
            [("turn",), ("room", 11, 200), ("firsts",), ("undoor", 0), ("firsts",), ("unside", 0)],
            [("firsts",), ("best",), ("way_round",), ("hits", 3), ("widest", 2), ("widths", 1, 60)],
        ]
        for look in looks:
            told = ask(*FURNISHED, call, ("back",), *look)
            self.assertGreaterEqual(told[5][0], 0, call)
            self.assertEqual(told[6], [4], call)
            self.assertEqual(told[7:], ask(*FURNISHED, *look)[5:], call)

    def test_each_kind_of_change(self):
        calls = [("door", 14, 16), ("side", 14, 16), ("undoor", 0), ("undoor", 1), ("unside", 0), ("unside", 1)]
        for call in calls + [("wide", 7), ("room", 200, 200), ("room", 25, 20), ("turn",)]:
            self.assert_taken_back(call)

    def test_one_that_leaves_all_as_it_was_counts(self):
        for call in (("wide", 10), ("room", 40, 30)):
            self.assert_taken_back(call)
        told = ask(ROOM, ("wide", 10), ("room", 40, 30), ("back",), ("back",), ("back",))
        self.assertEqual(told[3:], [[1], [0], [-2]])

    def test_nothing_to_take_back(self):
        assert_refused(self, [ROOM], ("back",), -2)
        assert_refused(self, [ROOM, ("wide", 7), ("back",)], ("back",), -2)

    def test_takes_back_the_last_first(self):
        calls = [("wide", w) for w in range(11, 16)]
        told = ask(ROOM, *calls, *[("back",), ("seams", 1)] * 5, ("back",))[6:]
        self.assertEqual(told[0::2], [[4], [3], [2], [1], [0], [-2]])
        self.assertEqual([seams[2] - seams[1] for seams in told[1::2]], [14, 13, 12, 11, 10])

    def test_the_last_10_and_no_more(self):
        for count in (9, 10, 11, 12, 25):
            calls = [("wide", w) for w in range(11, 11 + count)]
            kept = min(count, 10)
            told = ask(ROOM, *calls, *[("back",)] * (kept + 1), ("wide", 1))[1 + count:]
            self.assertEqual(told[:kept], [[left] for left in reversed(range(kept))])
            self.assertEqual(told[kept], [-2])
            self.assertEqual(told[kept + 1], [10 + count - kept])

    def test_a_change_behind_a_back_is_kept_as_any(self):
        calls = [("wide", w) for w in range(11, 21)]
        told = ask(ROOM, *calls, ("back",), ("back",), ("wide", 50), ("back",), ("wide", 1))[11:]
        self.assertEqual(told, [[9], [8], [18], [8], [18]])

    def test_back_undoes_no_back(self):
        told = ask(ROOM, ("wide", 7), ("wide", 8), ("back",), ("back",), ("back",), ("wide", 1))
        self.assertEqual(told[3:], [[1], [0], [-2], [10]])

    def test_a_refused_call_is_none(self):
        refused = [
            ("door", 5, 5), ("side", 5, 5), ("undoor", 1), ("unside", 1), ("wide", 0), ("room", 0, 1), ("room", 1, 30),
            ("begin", 0, 1, 1), ("seams", 0), ("hits", 0), ("widths", 0, 1), ("best_width", 0, 1), ("could", 1, 1),
            ("widest", 40),
        ]
        told = ask(ROOM, ("door", 3, 9), ("side", 3, 9), *refused, ("back",), ("back",), ("back",))
        self.assertEqual(told[3:12], [[-22], [-22], [-2], [-2], [-22], [-22], [-16], [-22], [-22]])
        self.assertEqual(told[12:17], [[-22]] * 5)
        self.assertEqual(told[17:], [[1], [0], [-2]])

    def test_a_question_is_none(self):
        questions = [
            ("seams", 3), ("strips", 3), ("clear", 3), ("firsts",), ("best",), ("fewest",), ("way_round",),
            ("widths", 1, 60), ("best_width", 1, 60), ("could", 1, 2), ("widest", 3), ("hits", 3), ("state",),
        ]
        told = ask(ROOM, ("wide", 7), *questions, ("back",), ("back",))
        self.assertEqual(told[15:], [[0], [-2]])

    def test_a_door_that_is_gone_comes_back_in_its_place(self):
        doors = [ROOM] + [("door", o - 1, o + 1) for o in (1, 3, 5)]
        told = ask(*doors, ("undoor", 1), ("back",), ("undoor", 1), *[("clear", o) for o in (1, 3, 5)])
        self.assertEqual(told[4:], [[2], [3], [2], [0], [1], [0]])


if __name__ == "__main__":
    unittest.main()
