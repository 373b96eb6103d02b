"""could and widest: one door more, which is asked after but not put there."""

import unittest

from lines import GREATEST, ask, ask_last, assert_refused, furnished

FIVE = [(0, 2), (11, 14), (23, 26), (35, 38), (40, 41)]
BARRED = [(13, 24)]


def could(wide, across, doors, low, high):
    return ask_last(*furnished(wide, across, 20, doors), ("could", low, high))


def widest(wide, across, doors, low):
    return ask_last(*furnished(wide, across, 20, doors), ("widest", low))


class Could(unittest.TestCase):
    def test_without_doors(self):
        self.assertEqual(could(10, 45, [], 13, 23), [1])
        self.assertEqual(could(10, 45, [], 13, 24), [0])
        self.assertEqual(could(10, 45, [], 0, 1), [1])
        self.assertEqual(could(10, 45, [], 44, 45), [1])

    def test_clear_of_all_doors_and_it(self):
        # 1, 2, 8, 9 and 10 are clear as it is.
        self.assertEqual(could(10, 45, [(12, 18)], 28, 32), [1])
        self.assertEqual(could(10, 45, [(12, 18)], 27, 32), [1])
        self.assertEqual(could(10, 45, [(12, 18)], 27, 33), [0])
        self.assertEqual(could(10, 45, [(12, 18)], 28, 33), [1])
        self.assertEqual(could(10, 45, [(12, 18)], 12, 18), [1])

    def test_a_sixth_one(self):
        # 8, 9 and 10 are clear of the five.
        self.assertEqual(could(10, 60, FIVE, 47, 50), [1])
        self.assertEqual(could(10, 60, FIVE, 47, 51), [0])
        self.assertEqual(could(10, 60, FIVE, 0, 8), [1])

    def test_where_no_first_strip_is_clear_as_it_is(self):
        self.assertEqual(could(10, 45, BARRED, 0, 1), [0])
        self.assertEqual(could(10, 45, BARRED, 13, 24), [0])

    def test_the_whole_wall_long(self):
        self.assertEqual(could(10, 45, [], 0, 45), [0])
        self.assertEqual(could(10, 10, [], 0, 10), [1])
        self.assertEqual(could(10, 6, [], 0, 6), [1])

    def test_strips_of_1(self):
        self.assertEqual(could(1, 9, [], 4, 5), [1])
        self.assertEqual(could(1, 9, [], 4, 6), [0])

    def test_two_doors_that_bar_all_together(self):
        self.assertEqual(could(4, 20, [(0, 4)], 6, 10), [0])
        self.assertEqual(could(4, 20, [(0, 4)], 4, 8), [1])

    def test_not_as_told(self):
        for doors in ([], [(12, 18)], FIVE, BARRED):
            before = furnished(10, 45, 200, doors, [(0, 200)])
            for low, high in ((0, 0), (5, 5), (6, 5), (45, 45), (45, 0), (0, 46), (44, 46), (45, 46), (46, 47)):
                assert_refused(self, before, ("could", low, high), -22)
            for low, high in ((0, GREATEST), (GREATEST, 1), (GREATEST, GREATEST), (GREATEST - 1, GREATEST)):
                assert_refused(self, before, ("could", low, high), -22)

    def test_is_what_the_door_would_do(self):
        for doors in ([], [(12, 18)], [(2, 6), (30, 33)], BARRED):
            before = furnished(10, 45, 20, doors)
            for low in range(0, 44, 3):
                for high in range(low + 1, 46):
                    firsts = ask_last(*before, ("door", low, high), ("firsts",))
                    self.assertEqual(ask_last(*before, ("could", low, high)), [min(firsts[0], 1)])


class Widest(unittest.TestCase):
    def test_without_doors(self):
        self.assertEqual(widest(10, 45, [], 0), [10])
        self.assertEqual(widest(10, 45, [], 13), [23])
        self.assertEqual(widest(10, 45, [], 34), [44])

    def test_goes_no_further_than_the_wall(self):
        for low in (35, 36, 40, 44):
            self.assertEqual(widest(10, 45, [], low), [45])

    def test_up_to_the_seam_that_lies_farthest(self):
        # 1, 2, 8, 9 and 10 are clear as it is.
        self.assertEqual(widest(10, 45, [(12, 18)], 12), [22])
        self.assertEqual(widest(10, 45, [(12, 18)], 13), [22])
        self.assertEqual(widest(10, 45, [(12, 18)], 20), [30])
        self.assertEqual(widest(10, 45, [(12, 18)], 22), [32])
        self.assertEqual(widest(10, 45, [(12, 18)], 23), [32])
        self.assertEqual(widest(10, 45, [(12, 18)], 27), [32])
        self.assertEqual(widest(10, 45, [(12, 18)], 28), [38])

    def test_a_sixth_one(self):
        # 8, 9 and 10 are clear of the five.
        self.assertEqual(widest(10, 60, FIVE, 0), [10])
        self.assertEqual(widest(10, 60, FIVE, 10), [20])
        self.assertEqual(widest(10, 60, FIVE, 11), [20])
        self.assertEqual(widest(10, 60, FIVE, 49), [59])
        self.assertEqual(widest(10, 60, FIVE, 50), [60])

    def test_where_one_first_strip_alone_is_clear(self):
        self.assertEqual(widest(10, 45, [(13, 23)], 3), [13])
        self.assertEqual(widest(10, 45, [(13, 23)], 12), [13])
        self.assertEqual(widest(10, 45, [(13, 23)], 42), [43])
        self.assertEqual(widest(10, 45, [(13, 23)], 43), [45])

    def test_a_room_as_wide_as_a_strip_and_narrower(self):
        for across in (10, 6, 1):
            self.assertEqual(widest(10, across, [], 0), [across])
            self.assertEqual(widest(10, across, [(0, across)], across - 1), [across])

    def test_strips_of_1(self):
        self.assertEqual([widest(1, 9, [], low) for low in range(9)], [[low + 1] for low in range(9)])

    def test_the_greatest_room(self):
        self.assertEqual(widest(60, 200, [], 0), [60])
        self.assertEqual(widest(60, 200, [], 139), [199])
        self.assertEqual(widest(60, 200, [], 140), [200])
        self.assertEqual(widest(60, 200, [], 199), [200])

    def test_by_none(self):
        for low in (0, 13, 44):
            assert_refused(self, furnished(10, 45, 20, BARRED), ("widest", low), -33)
        assert_refused(self, furnished(4, 20, 20, [(0, 4), (6, 10)]), ("widest", 12), -33)

    def test_from_is_not_less_than_across(self):
        for doors in ([], [(12, 18)], FIVE):
            for low in (45, 46, 200, GREATEST):
                assert_refused(self, furnished(10, 45, 200, doors, [(0, 200)]), ("widest", low), -22)

    def test_not_as_told_comes_ahead_of_by_none(self):
        for low in (45, 46, GREATEST):
            assert_refused(self, furnished(10, 45, 20, BARRED), ("widest", low), -22)

    def test_is_the_greatest_that_could_be(self):
        for doors in ([], [(12, 18)], [(2, 6), (30, 33)], FIVE):
            before = furnished(10, 45, 20, doors)
            for low in range(45):
                each = [("could", low, high) for high in range(low + 1, 46)]
                told = ask(*before, ("widest", low), *each)[len(before):]
                able = [low + 1 + i for i, reply in enumerate(told[1:]) if reply == [1]]
                self.assertEqual(told[0], [max(able)])
                self.assertEqual(able, list(range(low + 1, max(able) + 1)))


class NothingChanged(unittest.TestCase):
    def test_state_and_all_else_stay(self):
        for doors in ([], [(12, 18)], FIVE, BARRED):
            before = furnished(10, 45, 20, doors)
            calls = [("state",), ("firsts",), ("hits", 3), ("widest", 3)]
            asked = [("could", 3, 4), ("could", 0, 45), ("could", 5, 5), ("widest", 0), ("widest", 44), ("widest", 45)]
            told = ask(*before, *calls, *asked, *calls, *[("back",)] * (len(doors) + 1))[len(before):]
            self.assertEqual(told[:4], told[10:14])
            self.assertEqual(told[14:], [[left] for left in reversed(range(len(doors)))] + [[-2]])

    def test_behind_a_turn(self):
        before = furnished(10, 45, 20, [(0, 45)], [(3, 9)]) + [("turn",)]
        told = ask(*before, ("could", 3, 13), ("could", 3, 14), ("could", 3, 21), ("widest", 2), ("widest", 20))
        self.assertEqual(told[4:], [[1], [0], [-22], [12], [-22]])


if __name__ == "__main__":
    unittest.main()
