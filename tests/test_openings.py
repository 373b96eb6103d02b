"""door, side, undoor, unside."""

import unittest

from lines import GREATEST, ask, ask_last, assert_refused

# The two walls differ, so that one taken for the other is seen.
ROOM = ("begin", 10, 40, 30)
KINDS = (("door", "undoor", 40), ("side", "unside", 30))


def filled(name):
    return [ROOM] + [(name, 3 * i, 3 * i + 2) for i in range(5)]


class Told(unittest.TestCase):
    def test_are_numbered_from_0_to_4(self):
        for name, gone, wall in KINDS:
            self.assertEqual(ask(*filled(name)), [[0], [0], [1], [2], [3], [4]])

    def test_doors_and_sides_are_numbered_apart(self):
        told = ask(ROOM, ("door", 1, 2), ("side", 1, 2), ("side", 3, 4), ("door", 1, 2))
        self.assertEqual(told, [[0], [0], [0], [1], [1]])

    def test_the_sixth_is_refused(self):
        for name, gone, wall in KINDS:
            assert_refused(self, filled(name), (name, 20, 22), -28)

    def test_the_sixth_of_one_kind_leaves_room_for_the_other(self):
        self.assertEqual(ask_last(*filled("door"), ("side", 1, 2)), [0])
        self.assertEqual(ask_last(*filled("side"), ("door", 1, 2)), [0])

    def test_at_the_walls_ends(self):
        for name, gone, wall in KINDS:
            for low, high in ((0, 1), (wall - 1, wall), (0, wall), (5, 6)):
                self.assertEqual(ask(ROOM, (name, low, high)), [[0], [0]])

    def test_not_as_told(self):
        for name, gone, wall in KINDS:
            wrong = [(0, 0), (5, 5), (6, 5), (wall, wall), (wall, 0), (0, wall + 1), (wall, wall + 1), (0, GREATEST)]
            wrong += [(GREATEST, 1), (GREATEST, GREATEST), (GREATEST - 1, GREATEST)]
            for low, high in wrong:
                assert_refused(self, [ROOM, (name, 2, 9)], (name, low, high), -22)

    def test_not_as_told_comes_ahead_of_too_many(self):
        for name, gone, wall in KINDS:
            for low, high in ((5, 5), (6, 5), (0, wall + 1)):
                assert_refused(self, filled(name), (name, low, high), -22)

    def test_alike_and_overlapping_ones_are_told_apart(self):
        for name, gone, wall in KINDS:
            told = ask(ROOM, (name, 2, 9), (name, 2, 9), (name, 5, 12), (gone, 0), (gone, 0), (gone, 0))
            self.assertEqual(told, [[0], [0], [1], [2], [2], [1], [0]])


class Gone(unittest.TestCase):
    def test_answers_how_many_there_are(self):
        for name, gone, wall in KINDS:
            told = ask(*filled(name), (gone, 4), (gone, 0), (gone, 1), (gone, 0), (gone, 0), (gone, 0))
            self.assertEqual(told[6:], [[4], [3], [2], [1], [0], [-2]])

    def test_no_such(self):
        for name, gone, wall in KINDS:
            for i in (0, 1, GREATEST):
                assert_refused(self, [ROOM], (gone, i), -2)
            for i in (5, 6, GREATEST):
                assert_refused(self, filled(name), (gone, i), -2)

    def test_one_kind_is_not_the_other(self):
        self.assertEqual(ask_last(ROOM, ("door", 1, 2), ("unside", 0)), [-2])
        self.assertEqual(ask_last(ROOM, ("side", 1, 2), ("undoor", 0)), [-2])

    def test_there_is_room_for_another_then(self):
        for name, gone, wall in KINDS:
            told = ask(*filled(name), (gone, 2), (name, 20, 22), (name, 20, 22))
            self.assertEqual(told[6:], [[4], [4], [-28]])

    def test_doors_behind_are_numbered_one_less(self):
        # Each door bars one first strip alone: those left tell which one is gone.
        doors = [ROOM] + [("door", o - 1, o + 1) for o in (1, 3, 5, 7)]
        for i, gone in ((0, 1), (1, 3), (2, 5), (3, 7)):
            barred = [o for o in (1, 3, 5, 7) if o != gone]
            for j in range(3):
                left = [o for k, o in enumerate(barred) if k != j]
                told = ask(*doors, ("undoor", i), ("undoor", j), *[("clear", o) for o in range(1, 11)])
                self.assertEqual(told[5:7], [[3], [2]])
                self.assertEqual(told[7:], [[0] if o in left else [1] for o in range(1, 11)])

    def test_sides_behind_are_numbered_one_less(self):
        sides = [ROOM] + [("side", 0, end) for end in (4, 12, 8, 16)]
        for i in range(4):
            for j in range(3):
                ends = [4, 12, 8, 16]
                ends.pop(i)
                ends.pop(j)
                before = sides + [("unside", i), ("unside", j)]
                self.assertEqual(ask_last(*before, ("room", 40, max(ends))), [40, 30])
                self.assertEqual(ask_last(*before, ("room", 40, max(ends) - 1)), [-16])


if __name__ == "__main__":
    unittest.main()
