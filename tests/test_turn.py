"""turn and way_round."""

import unittest

from lines import ask, ask_last, assert_refused, furnished

DOORS = [(12, 18), (30, 41)]
SIDES = [(3, 9)]
ROOM = furnished(10, 45, 20, DOORS, SIDES)
TURNED = furnished(10, 20, 45, SIDES, DOORS)

# By these a room is told, but not what can be taken back.
LOOKS = [
    [("firsts",), ("best",), ("way_round",), ("widths", 1, 60), ("best_width", 1, 60), ("widest", 0), ("strips", 4)],
    [("hits", o) for o in range(1, 11)] + [("seams", o) for o in range(1, 11)],
    [("room", 8, 41), ("room", 9, 40), ("room", 9, 41)],
    [("room", 40, 9), ("room", 41, 8), ("room", 41, 9)],
    [("door", 0, 21), ("door", 0, 20), ("side", 0, 46), ("side", 0, 45)],
    [("undoor", 0), ("firsts",), ("undoor", 0), ("firsts",), ("undoor", 0)],
    [("unside", 0), ("turn",), ("firsts",), ("undoor", 0), ("firsts",), ("undoor", 0)],
    [("undoor", 1), ("unside", 1), ("firsts",), ("turn",), ("firsts",)],
    [("could", 3, 20), ("could", 3, 21), ("could", 3, 13), ("could", 3, 14), ("could", 7, 8)],
]


class Turn(unittest.TestCase):
    def assert_same_room(self, calls, others):
        for look in LOOKS:
            self.assertEqual(ask(*calls, *look)[len(calls):], ask(*others, *look)[len(others):])

    def test_answers_what_along_was(self):
        told = ask(*ROOM, ("turn",), ("turn",), ("turn",))[4:]
        self.assertEqual(told, [[20], [45], [20]])

    def test_makes_the_room_turned(self):
        self.assert_same_room(ROOM + [("turn",)], TURNED)
        self.assertEqual(ask_last(*ROOM, ("turn",), ("state",)), [10, 20, 45, 1, 2, 4])

    def test_turned_twice_it_is_as_it_was(self):
        self.assert_same_room(ROOM + [("turn",), ("turn",)], ROOM)
        self.assertEqual(ask_last(*ROOM, ("turn",), ("turn",), ("state",)), [10, 45, 20, 2, 1, 5])

    def test_is_taken_back(self):
        self.assert_same_room(ROOM + [("turn",), ("back",)], ROOM)
        told = ask(*ROOM, ("turn",), ("back",), ("state",), ("back",), ("back",), ("back",), ("back",))[4:]
        self.assertEqual(told, [[20], [3], [10, 45, 20, 2, 1, 3], [2], [1], [0], [-2]])

    def test_what_was_ahead_of_a_turn_is_taken_back(self):
        told = ask(*ROOM, ("turn",), ("back",), ("back",), ("state",), ("back",), ("state",))[5:]
        self.assertEqual(told, [[3], [2], [10, 45, 20, 2, 0, 2], [1], [10, 45, 20, 1, 0, 1]])

    def test_what_is_behind_a_turn_is_taken_back(self):
        for call in (("door", 1, 2), ("side", 1, 2), ("undoor", 0), ("unside", 1), ("wide", 7), ("room", 9, 41)):
            self.assert_same_room(ROOM + [("turn",), call, ("back",)], TURNED)
            self.assert_same_room(ROOM + [("turn",), call, ("back",), ("back",)], ROOM)

    def test_turns_among_the_last_10(self):
        for count in (9, 10, 11, 12, 25):
            calls = [("begin", 10, 45, 20)] + [("turn",)] * count
            kept = min(count, 10)
            told = ask(*calls, ("state",), *[("back",)] * (kept + 1), ("state",))[1 + count:]
            self.assertEqual(told[0], [10, 20, 45, 0, 0, kept] if count % 2 else [10, 45, 20, 0, 0, kept])
            self.assertEqual(told[1:-1], [[left] for left in reversed(range(kept))] + [[-2]])
            self.assertEqual(told[-1], [10, 20, 45, 0, 0, 0] if (count - kept) % 2 else [10, 45, 20, 0, 0, 0])

    def test_a_turn_ahead_of_ten_others_stays(self):
        told = ask(*ROOM, ("turn",), *[("wide", 11)] * 10, *[("back",)] * 11, ("state",))
        self.assertEqual(told[-2:], [[-2], [10, 20, 45, 1, 2, 0]])

    def test_in_a_square_room_counts_too(self):
        told = ask(("begin", 10, 30, 30), ("turn",), ("state",), ("back",), ("back",))
        self.assertEqual(told[1:], [[30], [10, 30, 30, 0, 0, 1], [0], [-2]])

    def test_leaves_strips_as_wide_as_they_were(self):
        self.assertEqual(ask_last(*ROOM, ("wide", 7), ("turn",), ("wide", 9)), [7])


class BehindATurn(unittest.TestCase):
    def setUp(self):
        self.turned = ROOM + [("turn",)]

    def test_door(self):
        self.assertEqual(ask_last(*self.turned, ("door", 19, 20)), [1])
        assert_refused(self, self.turned, ("door", 19, 21), -22)

    def test_side(self):
        self.assertEqual(ask_last(*self.turned, ("side", 20, 45)), [2])
        assert_refused(self, self.turned, ("side", 20, 46), -22)

    def test_room(self):
        self.assertEqual(ask_last(*self.turned, ("room", 9, 41)), [20, 45])
        assert_refused(self, self.turned, ("room", 8, 41), -16)
        assert_refused(self, self.turned, ("room", 9, 40), -16)

    def test_undoor(self):
        self.assertEqual(ask_last(*self.turned, ("undoor", 0)), [0])
        assert_refused(self, self.turned, ("undoor", 1), -2)

    def test_unside(self):
        self.assertEqual(ask_last(*self.turned, ("unside", 1)), [1])
        self.assertEqual(ask_last(*self.turned, ("unside", 1), ("room", 9, 18)), [20, 45])
        self.assertEqual(ask_last(*self.turned, ("unside", 0), ("room", 9, 40)), [-16])
        assert_refused(self, self.turned, ("unside", 2), -2)

    def test_five_sides_are_five_doors(self):
        before = furnished(10, 45, 20, [], [(i, i + 1) for i in range(5)]) + [("turn",)]
        assert_refused(self, before, ("door", 0, 1), -28)
        self.assertEqual(ask_last(*before, ("side", 0, 45)), [0])
        self.assertEqual(ask_last(*before, ("turn",), ("side", 0, 1)), [-28])
        self.assertEqual(ask_last(*before, ("turn",), ("door", 0, 45)), [0])

    def test_strips_and_their_seams(self):
        told = ask(*self.turned, ("seams", 6), ("strips", 6), ("clear", 6), ("hits", 6), ("clear", 9))[5:]
        self.assertEqual(told, [[2, 6, 16], [3, 4, 4, 1350], [0], [1, 0], [1]])


def way(wide, across, along, doors=(), sides=()):
    return ask_last(*furnished(wide, across, along, doors, sides), ("way_round",))


class WayRound(unittest.TestCase):
    def test_the_one_that_needs_less_carpet(self):
        self.assertEqual(way(10, 45, 20), [1, 10, 900])
        self.assertEqual(way(10, 20, 45), [0, 10, 900])

    def test_along_if_they_do_alike(self):
        self.assertEqual(way(10, 40, 40), [0, 10, 1600])
        self.assertEqual(way(10, 20, 30), [0, 10, 600])
        self.assertEqual(way(10, 30, 20), [0, 10, 600])

    def test_along_if_they_do_alike_by_other_first_strips(self):
        self.assertEqual(way(10, 45, 45), [0, 8, 2250])
        self.assertEqual(way(10, 45, 45, [(7, 9)]), [0, 7, 2250])
        self.assertEqual(way(10, 45, 45, [], [(7, 9)]), [0, 8, 2250])

    def test_doors_and_sides_make_one_need_more(self):
        self.assertEqual(way(10, 40, 40, [(9, 11)]), [1, 10, 1600])
        self.assertEqual(way(10, 40, 40, [], [(9, 11)]), [0, 10, 1600])
        self.assertEqual(way(10, 40, 40, [(9, 11)], [(9, 11)]), [0, 5, 2000])
        self.assertEqual(way(10, 45, 20, [], [(9, 11)]), [0, 8, 1000])

    def test_the_other_one_if_by_one_there_is_none(self):
        self.assertEqual(way(10, 45, 20, [(0, 45)]), [1, 10, 900])
        self.assertEqual(way(10, 45, 20, [], [(0, 20)]), [0, 8, 1000])
        self.assertEqual(way(10, 20, 45, [(0, 20)]), [1, 8, 1000])
        self.assertEqual(way(10, 20, 45, [], [(0, 45)]), [0, 10, 900])
        self.assertEqual(way(10, 40, 40, [(0, 11)]), [1, 10, 1600])
        self.assertEqual(way(10, 40, 40, [], [(0, 11)]), [0, 10, 1600])

    def test_none_either_way(self):
        assert_refused(self, furnished(10, 45, 20, [(0, 45)], [(0, 20)]), ("way_round",), -33)
        assert_refused(self, furnished(10, 45, 20, [(1, 12)], [(4, 15)]), ("way_round",), -33)
        assert_refused(self, furnished(4, 20, 20, [(0, 4), (6, 10)], [(3, 8)]), ("way_round",), -33)

    def test_goes_by_the_best_first_strip_each_way(self):
        self.assertEqual(way(10, 45, 20, [(4, 11)]), [1, 10, 900])
        self.assertEqual(way(10, 20, 45, [], [(4, 11)]), [0, 10, 900])
        self.assertEqual(way(10, 20, 45, [(0, 20)], [(4, 11)]), [1, 3, 1200])

    def test_corners(self):
        self.assertEqual(way(10, 10, 6), [0, 10, 60])
        self.assertEqual(way(10, 6, 10), [1, 10, 60])
        self.assertEqual(way(60, 1, 1), [0, 60, 60])
        self.assertEqual(way(1, 200, 199), [0, 1, 39800])
        self.assertEqual(way(60, 200, 200), [0, 40, 48000])

    def test_of_the_room_turned_is_the_other_one(self):
        for doors, sides in (([], []), ([(0, 45)], []), ([], [(0, 20)]), ([(12, 18)], [(9, 11)])):
            told = ask(*furnished(10, 45, 20, doors, sides), ("way_round",), ("turn",), ("way_round",))
            self.assertEqual(told[-1], [1 - told[-3][0]] + told[-3][1:])

    def test_turns_nothing(self):
        for doors in ([], [(0, 45)]):
            told = ask(*furnished(10, 45, 20, doors), ("state",), ("way_round",), ("state",))
            self.assertEqual(told[-2][0], 1)
            self.assertEqual(told[-1], told[-3])


if __name__ == "__main__":
    unittest.main()
