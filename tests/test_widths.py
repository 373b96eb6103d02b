"""widths and best_width."""

import unittest

from lines import GREATEST, ask, ask_last, assert_refused, furnished

WRONG = (
    (0, 5), (0, 0), (0, 60), (0, 61), (0, GREATEST), (5, 4), (60, 1), (1, 0), (61, 60), (1, 61), (60, 61), (61, 61),
    (1, GREATEST), (GREATEST, 1), (GREATEST, GREATEST), (GREATEST - 1, GREATEST),
)
# With strips of 6 a first one of 6 alone is clear; with 7 none is; with 8 there are 7 and 8.
GAPPED = [(0, 6), (12, 15)]


def told(across, along, doors, low, high):
    """What widths and best_width answer."""
    return ask(*furnished(10, across, along, doors), ("widths", low, high), ("best_width", low, high))[-2:]


class Widths(unittest.TestCase):
    def test_without_doors_all_are(self):
        self.assertEqual(told(45, 20, [], 1, 60)[0], [60] + list(range(1, 61)))
        self.assertEqual(told(45, 20, [], 7, 9)[0], [3, 7, 8, 9])

    def test_one_door_alone_bars_those_narrower_than_it(self):
        self.assertEqual(told(45, 20, [(12, 18)], 1, 10)[0], [5, 6, 7, 8, 9, 10])
        self.assertEqual(told(45, 20, [(12, 18)], 5, 6)[0], [1, 6])

    def test_two_doors_leave_a_gap(self):
        self.assertEqual(told(20, 3, GAPPED, 5, 9)[0], [3, 6, 8, 9])
        self.assertEqual(told(20, 3, GAPPED, 7, 7)[0], [0])

    def test_from_and_to_are_among_them(self):
        self.assertEqual(told(45, 20, [], 1, 1)[0], [1, 1])
        self.assertEqual(told(45, 20, [], 60, 60)[0], [1, 60])
        self.assertEqual(told(20, 3, GAPPED, 6, 8)[0], [2, 6, 8])

    def test_none_is(self):
        self.assertEqual(told(45, 20, [(0, 45)], 1, 44), [[0], [-33]])
        self.assertEqual(told(200, 20, [(0, 61)], 1, 60), [[0], [-33]])
        self.assertEqual(told(20, 3, GAPPED, 7, 7), [[0], [-33]])
        self.assertEqual(told(20, 3, GAPPED, 1, 5), [[0], [-33]])

    def test_how_wide_strips_are_now_makes_no_difference(self):
        calls = furnished(10, 20, 3, GAPPED)
        for wide in (1, 7, 60):
            replies = ask(*calls, ("wide", wide), ("widths", 5, 9), ("best_width", 5, 9))
            self.assertEqual(replies[-2:], told(20, 3, GAPPED, 5, 9))

    def test_sides_make_no_difference(self):
        replies = ask(*furnished(10, 20, 3, GAPPED, [(0, 3)]), ("widths", 1, 9), ("best_width", 1, 9))
        self.assertEqual(replies[-2:], told(20, 3, GAPPED, 1, 9))

    def test_not_as_told(self):
        for low, high in WRONG:
            assert_refused(self, furnished(10, 20, 3, GAPPED), ("widths", low, high), -22)


class BestWidth(unittest.TestCase):
    def test_least_carpet(self):
        self.assertEqual(told(45, 20, [], 6, 10)[1], [9, 900])
        self.assertEqual(told(45, 20, [], 10, 14)[1], [12, 960])
        self.assertEqual(told(45, 20, [], 60, 60)[1], [60, 1200])

    def test_of_like_ones_the_least(self):
        self.assertEqual(told(45, 20, [], 1, 60)[1], [1, 900])
        self.assertEqual(told(45, 20, [], 6, 8)[1], [6, 960])
        self.assertEqual(told(45, 20, [], 10, 60)[1], [15, 900])
        self.assertEqual(told(45, 20, [], 16, 60)[1], [45, 900])
        self.assertEqual(told(20, 3, GAPPED, 1, 9)[1], [6, 72])
        self.assertEqual(told(20, 3, GAPPED, 7, 9)[1], [8, 72])

    def test_with_the_best_first_strip(self):
        # Strips of 10 would do with 4; the door asks for a fifth one, so that four of 11 need less.
        self.assertEqual(told(40, 10, [(9, 11)], 10, 10)[1], [10, 500])
        self.assertEqual(told(40, 10, [(9, 11)], 10, 11)[1], [11, 440])
        self.assertEqual(told(40, 10, [], 10, 11)[1], [10, 400])

    def test_of_those_alone_that_fit(self):
        self.assertEqual(told(45, 20, [(0, 45)], 1, 60), [[16] + list(range(45, 61)), [45, 900]])
        self.assertEqual(told(45, 20, [(0, 45)], 44, 46), [[2, 45, 46], [45, 900]])
        self.assertEqual(told(45, 20, [(12, 22)], 9, 10), [[1, 10], [10, 1200]])

    def test_goes_by_along(self):
        self.assertEqual(told(45, 1, [], 6, 10)[1], [9, 45])
        self.assertEqual(told(200, 200, [], 60, 60)[1], [60, 48000])

    def test_a_room_narrower_than_a_strip(self):
        self.assertEqual(told(6, 3, [(0, 6)], 1, 60), [[55] + list(range(6, 61)), [6, 18]])
        self.assertEqual(told(6, 3, [], 7, 60)[1], [7, 21])

    def test_strips_of_1(self):
        self.assertEqual(told(9, 3, [(4, 5)], 1, 1), [[1, 1], [1, 27]])
        self.assertEqual(told(9, 3, [(4, 6)], 1, 1), [[0], [-33]])

    def test_behind_a_turn(self):
        before = furnished(10, 45, 20, [(0, 45)], [(9, 11)]) + [("turn",)]
        self.assertEqual(ask_last(*before, ("best_width", 10, 11)), [11, 990])
        self.assertEqual(ask_last(*before, ("widths", 1, 2)), [1, 2])

    def test_none_is_a_refusal(self):
        assert_refused(self, furnished(10, 45, 20, [(0, 45)]), ("best_width", 1, 44), -33)

    def test_not_as_told(self):
        for low, high in WRONG:
            assert_refused(self, furnished(10, 20, 3, GAPPED), ("best_width", low, high), -22)

    def test_not_as_told_comes_ahead_of_none(self):
        barred = furnished(10, 200, 3, [(0, 200)])
        self.assertEqual(ask_last(*barred, ("best_width", 1, 60)), [-33])
        for low, high in WRONG:
            self.assertEqual(ask_last(*barred, ("best_width", low, high)), [-22])
            self.assertEqual(ask_last(*barred, ("widths", low, high)), [-22])

    def test_asking_changes_nothing(self):
        calls = [("state",), ("widths", 1, 60), ("best_width", 1, 60), ("state",), ("firsts",), ("back",)]
        replies = ask(*furnished(10, 45, 20, [(12, 18)]), *calls)[2:]
        self.assertEqual(replies[0], replies[3])
        self.assertEqual(replies[4:], [[5, 1, 2, 8, 9, 10], [0]])


if __name__ == "__main__":
    unittest.main()
