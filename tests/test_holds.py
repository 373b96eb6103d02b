"""What holds, over all small rooms."""

import unittest

from lines import ask

WIDES = range(1, 7)
ACROSSES = range(1, 14)


def all_laid(wide, across):
    """Of each first strip its width, its seams, and what strips answers."""
    firsts = range(1, wide + 1)
    told = ask(("begin", wide, across, 3), *[("seams", o) for o in firsts], *[("strips", o) for o in firsts])
    return [(o, told[o][1:], told[wide + o]) for o in firsts]


def clear_of(wide, across, doors):
    calls = [("begin", wide, across, 3)] + [("door", low, high) for low, high in doors]
    told = ask(*calls, *[("clear", o) for o in range(1, wide + 1)])
    return [answer[0] for answer in told[len(calls):]]


def all_doors(across):
    return [(low, high) for low in range(across) for high in range(low + 1, across + 1)]


class Holds(unittest.TestCase):
    def test_just_when(self):
        for wide in WIDES:
            for across in ACROSSES:
                for door in all_doors(across):
                    left = [place % wide for place in range(door[0] + 1, door[1])]
                    expected = [0 if o % wide in left else 1 for o in range(1, wide + 1)]
                    self.assertEqual(clear_of(wide, across, [door]), expected)
                    self.assertEqual(1 not in expected, door[1] - door[0] > wide)

    def test_two_doors_bar_what_either_bars(self):
        for wide in WIDES:
            doors = all_doors(9)
            for one, other in zip(doors, doors[7:] + doors[:7]):
                each = zip(clear_of(wide, 9, [one]), clear_of(wide, 9, [other]))
                self.assertEqual(clear_of(wide, 9, [one, other]), [min(pair) for pair in each])

    def test_no_fewer_strips_and_at_most_one_more(self):
        for wide in WIDES:
            for across in ACROSSES:
                least = (across + wide - 1) // wide
                for o, seams, strips in all_laid(wide, across):
                    self.assertIn(strips[0], (least, least + 1))
                    self.assertEqual(strips[0], len(seams) + 1)
                    self.assertEqual(strips[3], strips[0] * wide * 3)

    def test_the_whole_room_is_laid(self):
        for wide in WIDES:
            for across in ACROSSES:
                for o, seams, strips in all_laid(wide, across):
                    edges = [0] + seams + [across]
                    widths = [high - low for low, high in zip(edges, edges[1:])]
                    self.assertEqual(widths[0], min(o, across))
                    self.assertEqual(widths[1:-1], [wide] * (len(widths) - 2))
                    self.assertTrue(1 <= min(widths) <= max(widths) <= wide)
                    self.assertEqual(strips[1:3], [widths[-1], min(widths)])

    def test_mirrored_it_is_the_same(self):
        for wide in WIDES:
            for across in ACROSSES:
                laid = all_laid(wide, across)
                for o, seams, strips in laid:
                    mirrored = laid[strips[1] - 1]
                    self.assertEqual([across - seam for seam in reversed(seams)], mirrored[1])
                    self.assertEqual(strips[2], mirrored[2][2])
                for low, high in all_doors(across):
                    clear = clear_of(wide, across, [(low, high)])
                    turned = clear_of(wide, across, [(across - high, across - low)])
                    self.assertEqual(clear, [turned[strips[1] - 1] for o, seams, strips in laid])


if __name__ == "__main__":
    unittest.main()
