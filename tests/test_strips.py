"""seams, strips, clear and hits."""

import unittest

from lines import GREATEST, ask, ask_last, assert_refused, furnished


def laid(wide, across, along, o):
    """What seams and strips answer."""
    return ask(("begin", wide, across, along), ("seams", o), ("strips", o))[1:]


def clear_firsts(wide, across, doors):
    calls = [("begin", wide, across, 10)] + [("door", low, high) for low, high in doors]
    told = ask(*calls, *[("clear", o) for o in range(1, wide + 1)])[len(calls):]
    return [o + 1 for o, answer in enumerate(told) if answer == [1]]


class Seams(unittest.TestCase):
    def test_lie_a_strip_apart_from_the_first_on(self):
        self.assertEqual(laid(10, 45, 20, 3), [[5, 3, 13, 23, 33, 43], [6, 2, 2, 1200]])
        self.assertEqual(laid(10, 45, 20, 10), [[4, 10, 20, 30, 40], [5, 5, 5, 1000]])
        self.assertEqual(laid(10, 45, 20, 7), [[4, 7, 17, 27, 37], [5, 8, 7, 1000]])

    def test_none_lies_at_the_wall(self):
        self.assertEqual(laid(10, 40, 1, 10), [[3, 10, 20, 30], [4, 10, 10, 40]])
        self.assertEqual(laid(10, 43, 1, 3), [[4, 3, 13, 23, 33], [5, 10, 3, 50]])

    def test_a_last_strip_of_1(self):
        self.assertEqual(laid(10, 41, 1, 10), [[4, 10, 20, 30, 40], [5, 1, 1, 50]])

    def test_a_room_as_wide_as_a_strip(self):
        self.assertEqual(laid(10, 10, 3, 10), [[0], [1, 10, 10, 30]])
        self.assertEqual(laid(10, 10, 3, 9), [[1, 9], [2, 1, 1, 60]])
        self.assertEqual(laid(10, 10, 3, 1), [[1, 1], [2, 9, 1, 60]])

    def test_a_room_narrower_than_a_strip(self):
        self.assertEqual(laid(10, 6, 3, 10), [[0], [1, 6, 6, 30]])
        self.assertEqual(laid(10, 6, 3, 7), [[0], [1, 6, 6, 30]])
        self.assertEqual(laid(10, 6, 3, 6), [[0], [1, 6, 6, 30]])
        self.assertEqual(laid(10, 6, 3, 5), [[1, 5], [2, 1, 1, 60]])
        self.assertEqual(laid(10, 6, 3, 2), [[1, 2], [2, 4, 2, 60]])

    def test_a_room_of_1(self):
        self.assertEqual(laid(60, 1, 1, 60), [[0], [1, 1, 1, 60]])
        self.assertEqual(laid(1, 1, 1, 1), [[0], [1, 1, 1, 1]])

    def test_a_first_strip_of_1(self):
        self.assertEqual(laid(4, 10, 2, 1), [[3, 1, 5, 9], [4, 1, 1, 32]])

    def test_strips_of_1(self):
        self.assertEqual(laid(1, 200, 200, 1), [[199] + list(range(1, 200)), [200, 1, 1, 40000]])

    def test_the_widest_and_the_longest(self):
        self.assertEqual(laid(60, 200, 200, 60), [[3, 60, 120, 180], [4, 20, 20, 48000]])

    def test_doors_and_sides_move_no_seam(self):
        told = ask(("begin", 10, 45, 20), ("door", 0, 45), ("side", 0, 20), ("seams", 3), ("strips", 3))
        self.assertEqual(told[3:], laid(10, 45, 20, 3))

    def test_asking_changes_nothing(self):
        calls = [("seams", 3), ("strips", 3), ("clear", 3), ("hits", 3)]
        told = ask(("begin", 10, 45, 20), ("door", 2, 4), *calls, *calls, ("back",))
        self.assertEqual(told[2:6], told[6:10])
        self.assertEqual(told[10], [0])


class First(unittest.TestCase):
    def test_may_be_1_to_a_strips_width(self):
        before = [("begin", 12, 40, 30), ("door", 3, 9), ("side", 1, 2), ("door", 20, 30)]
        for name in ("seams", "strips", "clear", "hits"):
            for o in (1, 12):
                self.assertGreaterEqual(ask_last(*before, (name, o))[0], 0)
            for o in (0, 13, 40, GREATEST):
                assert_refused(self, before, (name, o), -22)

    def test_goes_by_the_width_as_it_is_now(self):
        for name in ("seams", "strips", "clear", "hits"):
            told = ask(("begin", 12, 40, 30), ("wide", 20), (name, 20), ("wide", 5), (name, 6), ("back",), (name, 20))
            self.assertGreaterEqual(told[2][0], 0)
            self.assertEqual(told[4], [-22])
            self.assertEqual(told[6], told[2])


class Clear(unittest.TestCase):
    def test_without_doors_all_are(self):
        self.assertEqual(clear_firsts(5, 23, []), [1, 2, 3, 4, 5])

    def test_a_seam_within_a_door_bars(self):
        self.assertEqual(clear_firsts(10, 40, [(12, 18)]), [1, 2, 8, 9, 10])

    def test_a_seam_just_at_a_doors_beginning_or_end_is_clear(self):
        told = ask(("begin", 10, 40, 5), ("door", 13, 15), ("clear", 3), ("clear", 4), ("clear", 5))
        self.assertEqual(told[2:], [[1], [0], [1]])

    def test_a_door_as_wide_as_a_strip(self):
        self.assertEqual(clear_firsts(10, 40, [(13, 23)]), [3])
        self.assertEqual(clear_firsts(10, 40, [(0, 10)]), [10])

    def test_a_door_wider_than_a_strip_bars_all(self):
        self.assertEqual(clear_firsts(10, 40, [(13, 24)]), [])

    def test_a_door_of_1_bars_none(self):
        self.assertEqual(clear_firsts(3, 7, [(0, 1), (3, 4), (6, 7)]), [1, 2, 3])

    def test_a_door_the_whole_wall_long(self):
        self.assertEqual(clear_firsts(10, 40, [(0, 40)]), [])
        self.assertEqual(clear_firsts(10, 10, [(0, 10)]), [10])
        self.assertEqual(clear_firsts(10, 7, [(0, 7)]), [7, 8, 9, 10])
        self.assertEqual(clear_firsts(1, 1, [(0, 1)]), [1])

    def test_strips_of_1(self):
        self.assertEqual(clear_firsts(1, 9, [(4, 5)]), [1])
        self.assertEqual(clear_firsts(1, 9, [(4, 6)]), [])

    def test_two_doors_that_bar_all_together(self):
        self.assertEqual(clear_firsts(4, 20, [(0, 4)]), [4])
        self.assertEqual(clear_firsts(4, 20, [(6, 10)]), [2])
        self.assertEqual(clear_firsts(4, 20, [(0, 4), (6, 10)]), [])

    def test_any_of_five_doors_bars(self):
        doors = [(0, 2), (12, 14), (24, 26), (36, 38), (48, 50)]
        self.assertEqual(clear_firsts(10, 60, doors), [2, 4, 6, 8, 10])
        self.assertEqual(clear_firsts(10, 60, doors[:4]), [2, 4, 6, 8, 9, 10])

    def test_the_seam_ahead_of_the_wall_bars(self):
        self.assertEqual(clear_firsts(10, 40, [(38, 40)]), [1, 2, 3, 4, 5, 6, 7, 8, 10])

    def test_sides_bar_none(self):
        told = ask(("begin", 3, 40, 40), ("side", 0, 40), ("clear", 1), ("clear", 2), ("clear", 3))
        self.assertEqual(told[2:], [[1], [1], [1]])

    def test_a_door_that_is_gone_bars_no_more(self):
        told = ask(("begin", 10, 40, 5), ("door", 13, 15), ("clear", 4), ("undoor", 0), ("clear", 4))
        self.assertEqual(told[2:], [[0], [0], [1]])


def hits(wide, across, doors, o):
    return ask_last(*furnished(wide, across, 10, doors), ("hits", o))


class Hits(unittest.TestCase):
    def test_in_how_many_doors_then_which(self):
        doors = [(12, 18), (40, 45), (0, 4)]
        self.assertEqual(hits(10, 45, doors, 3), [3, 0, 1, 2])
        self.assertEqual(hits(10, 45, doors, 4), [2, 0, 1])
        self.assertEqual(hits(10, 45, doors, 2), [2, 1, 2])
        self.assertEqual(hits(10, 45, doors, 8), [0])
        self.assertEqual(hits(10, 45, doors, 5), [1, 0])

    def test_rise_whatever_the_doors_places(self):
        self.assertEqual(hits(10, 60, [(52, 54), (42, 44), (30, 32), (12, 14), (2, 4)], 3), [4, 0, 1, 3, 4])

    def test_without_doors(self):
        self.assertEqual(hits(10, 45, [], 3), [0])

    def test_a_door_with_many_seams_counts_once(self):
        self.assertEqual(hits(10, 45, [(0, 45)], 3), [1, 0])
        self.assertEqual(hits(1, 200, [(4, 5), (0, 200), (7, 9)], 1), [2, 1, 2])

    def test_a_seam_with_many_doors_counts_for_each(self):
        self.assertEqual(hits(10, 45, [(12, 18), (12, 18), (13, 18), (11, 14)], 3), [3, 0, 1, 3])

    def test_a_seam_just_at_a_doors_beginning_or_end_is_none(self):
        self.assertEqual(hits(10, 45, [(13, 15), (3, 4), (14, 16)], 3), [0])
        self.assertEqual(hits(10, 45, [(13, 15), (3, 4), (14, 16)], 4), [1, 0])
        self.assertEqual(hits(10, 45, [(13, 15), (3, 4), (14, 16)], 5), [1, 2])

    def test_a_room_narrower_than_a_strip(self):
        self.assertEqual(hits(10, 6, [(0, 6)], 6), [0])
        self.assertEqual(hits(10, 6, [(0, 6)], 10), [0])
        self.assertEqual(hits(10, 6, [(0, 6)], 5), [1, 0])

    def test_sides_are_no_doors(self):
        told = ask(("begin", 3, 40, 40), ("side", 0, 40), ("hits", 1), ("turn",), ("hits", 1))
        self.assertEqual(told[2:], [[0], [40], [1, 0]])

    def test_by_the_numbers_as_they_are_now(self):
        before = furnished(10, 45, 20, [(12, 18), (40, 45), (0, 4)])
        told = ask(*before, ("undoor", 1), ("hits", 3), ("back",), ("hits", 3), ("undoor", 0), ("hits", 3))[5:]
        self.assertEqual(told, [[2, 0, 1], [3], [3, 0, 1, 2], [2], [2, 0, 1]])

    def test_none_just_if_it_is_clear(self):
        before = furnished(10, 45, 20, [(12, 18), (40, 45), (0, 4)])
        for o in range(1, 11):
            told = ask(*before, ("hits", o), ("clear", o))[4:]
            self.assertEqual(told[1], [1] if told[0] == [0] else [0])


if __name__ == "__main__":
    unittest.main()
