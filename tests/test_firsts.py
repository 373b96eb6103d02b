"""firsts, best and fewest."""

import unittest

from lines import ask, ask_last, furnished


def told(wide, across, doors=(), along=20):
    """What firsts, best and fewest answer."""
    return ask(*furnished(wide, across, along, doors), ("firsts",), ("best",), ("fewest",))[-3:]


NONE = [[0], [-33], [-33]]


class Firsts(unittest.TestCase):
    def test_without_doors_all_are_clear(self):
        self.assertEqual(told(10, 45), [[10] + list(range(1, 11)), [8, 5, 7], [5]])

    def test_those_that_are_clear_rising(self):
        self.assertEqual(told(10, 45, [(12, 18)]), [[5, 1, 2, 8, 9, 10], [8, 5, 7], [5]])
        self.assertEqual(told(10, 45, [(25, 29), (12, 15)]), [[5, 1, 2, 5, 9, 10], [9, 5, 6], [5]])

    def test_none_is_clear(self):
        self.assertEqual(told(10, 45, [(13, 24)]), NONE)

    def test_go_by_the_room_as_it_is_now(self):
        calls = [("begin", 10, 45, 20), ("door", 12, 18), ("wide", 6), ("firsts",), ("undoor", 0), ("firsts",)]
        calls += [("back",), ("back",), ("firsts",)]
        replies = ask(*calls)
        self.assertEqual(replies[3], [1, 6])
        self.assertEqual(replies[5], [6, 1, 2, 3, 4, 5, 6])
        self.assertEqual(replies[8], [5, 1, 2, 8, 9, 10])

    def test_sides_bar_none(self):
        replies = ask(*furnished(10, 45, 20, [], [(0, 20)]), ("firsts",), ("best",), ("fewest",))[-3:]
        self.assertEqual(replies, told(10, 45))

    def test_along_makes_no_difference(self):
        for along in (1, 7, 200):
            self.assertEqual(told(10, 45, [(12, 18)], along), told(10, 45, [(12, 18)]))


class Best(unittest.TestCase):
    def test_fewest_strips_come_first(self):
        # 4 and below take 6 strips, 5 and above take 5.
        self.assertEqual(told(10, 45, [(5, 11)])[1:], [[5, 5, 5], [5]])
        self.assertEqual(told(10, 45, [(4, 10)])[1:], [[10, 5, 5], [5]])
        self.assertEqual(told(10, 40)[1:], [[10, 4, 10], [4]])

    def test_then_the_widest_narrowest(self):
        # 6 and 9 take 5 strips alike, by either one of 6; by 5 and 10 one of 5.
        self.assertEqual(told(10, 45, [(6, 10)])[1:], [[6, 5, 6], [5]])
        self.assertEqual(told(10, 45, [(6, 9)])[1:], [[9, 5, 6], [5]])

    def test_then_the_widest_first_strip(self):
        self.assertEqual(told(10, 45)[1], [8, 5, 7])
        self.assertEqual(told(10, 45, [(7, 9)])[1], [7, 5, 7])
        self.assertEqual(told(10, 45, [(6, 9)])[1], [9, 5, 6])

    def test_one_strip_more_where_the_doors_ask_for_it(self):
        self.assertEqual(told(10, 45, [(4, 11)]), [[4, 1, 2, 3, 4], [3, 6, 2], [6]])
        self.assertEqual(told(10, 40, [(9, 11)])[1:], [[5, 5, 5], [5]])

    def test_a_last_strip_of_1(self):
        self.assertEqual(told(10, 41, [(0, 10)]), [[1, 10], [10, 5, 1], [5]])

    def test_a_first_strip_of_1(self):
        self.assertEqual(told(10, 45, [(1, 11)]), [[1, 1], [1, 6, 1], [6]])

    def test_asking_changes_nothing(self):
        for doors in ([(12, 18)], [(13, 24)]):
            before = furnished(10, 45, 20, doors)
            questions = [("firsts",), ("best",), ("fewest",), ("way_round",)]
            replies = ask(*before, ("state",), *questions, ("state",), ("back",))
            self.assertEqual(replies[2], replies[7])
            self.assertEqual(replies[8], [0])


class Corners(unittest.TestCase):
    def test_a_room_as_wide_as_a_strip(self):
        self.assertEqual(told(10, 10), [[10] + list(range(1, 11)), [10, 1, 10], [1]])
        self.assertEqual(told(10, 10, [(0, 10)]), [[1, 10], [10, 1, 10], [1]])

    def test_a_room_narrower_than_a_strip(self):
        self.assertEqual(told(10, 6), [[10] + list(range(1, 11)), [10, 1, 6], [1]])
        self.assertEqual(told(10, 6, [(0, 6)]), [[5, 6, 7, 8, 9, 10], [10, 1, 6], [1]])
        self.assertEqual(told(60, 1, [(0, 1)]), [[60] + list(range(1, 61)), [60, 1, 1], [1]])

    def test_a_seam_just_at_a_doors_end(self):
        self.assertEqual(told(10, 45, [(18, 25)])[0], [4, 5, 6, 7, 8])

    def test_a_door_as_wide_as_a_strip(self):
        self.assertEqual(told(10, 45, [(13, 23)]), [[1, 3], [3, 6, 2], [6]])

    def test_a_door_wider_than_a_strip_by_1(self):
        self.assertEqual(told(10, 45, [(13, 24)]), NONE)

    def test_two_doors_that_bar_all_together(self):
        self.assertEqual(told(4, 20, [(0, 4)])[0], [1, 4])
        self.assertEqual(told(4, 20, [(6, 10)])[0], [1, 2])
        self.assertEqual(told(4, 20, [(0, 4), (6, 10)]), NONE)

    def test_five_doors_that_bar_all_together(self):
        doors = [(0, 2), (11, 14), (23, 26), (35, 38), (47, 51)]
        self.assertEqual(told(10, 60, doors), NONE)
        for i in range(5):
            self.assertNotEqual(told(10, 60, doors[:i] + doors[i + 1:])[0], [0])

    def test_strips_of_1(self):
        self.assertEqual(told(1, 9, [(4, 5)]), [[1, 1], [1, 9, 1], [9]])
        self.assertEqual(told(1, 9, [(4, 6)]), NONE)
        self.assertEqual(told(1, 200), [[1, 1], [1, 200, 1], [200]])

    def test_a_door_the_whole_wall_long(self):
        self.assertEqual(told(10, 45, [(0, 45)]), NONE)
        self.assertEqual(told(60, 60, [(0, 60)]), [[1, 60], [60, 1, 60], [1]])
        self.assertEqual(told(60, 61, [(0, 61)]), NONE)

    def test_the_greatest_room(self):
        self.assertEqual(told(60, 200), [[60] + list(range(1, 61)), [40, 4, 40], [4]])


class Agree(unittest.TestCase):
    def test_with_clear_and_strips(self):
        for wide, across, doors in ((10, 45, [(12, 18)]), (7, 30, [(2, 6), (20, 23)]), (12, 9, [(3, 8)])):
            before = furnished(wide, across, 5, doors)
            firsts, best, fewest = told(wide, across, doors)
            clear = [o for o in range(1, wide + 1) if ask_last(*before, ("clear", o)) == [1]]
            self.assertEqual(firsts, [len(clear)] + clear)
            strips = ask_last(*before, ("strips", best[0]))
            self.assertEqual(best[1:], [strips[0], strips[2]])
            self.assertEqual(fewest, [min(ask_last(*before, ("strips", o))[0] for o in clear)])


if __name__ == "__main__":
    unittest.main()
