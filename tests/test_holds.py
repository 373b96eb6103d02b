"""What holds, over all small rooms, and over many greater ones with doors and sides. The seeds are fixed."""

import random
import unittest

from lines import ask, ask_last, furnished

WIDES = range(1, 7)
ACROSSES = range(1, 14)


def all_laid(wide, across):
    """Of each first strip its width, its seams, and what strips answers."""
    firsts = range(1, wide + 1)
    told = ask(("begin", wide, across, 3), *[("seams", o) for o in firsts], *[("strips", o) for o in firsts])
    return [(o, told[o][1:], told[wide + o]) for o in firsts]


def clear_of(wide, across, doors):
    calls = [("begin", wide, across, 3)] + [("door", low, high) for low, high in doors]
    told = ask(*calls, *[("clear", o) for o in range(1, wide + 1)])
    return [answer[0] for answer in told[len(calls):]]


def all_doors(across):
    return [(low, high) for low in range(across) for high in range(low + 1, across + 1)]


class Holds(unittest.TestCase):
    def test_just_when(self):
        for wide in WIDES:
            for across in ACROSSES:
                for door in all_doors(across):
                    left = [place % wide for place in range(door[0] + 1, door[1])]
                    expected = [0 if o % wide in left else 1 for o in range(1, wide + 1)]
                    self.assertEqual(clear_of(wide, across, [door]), expected)
                    self.assertEqual(1 not in expected, door[1] - door[0] > wide)

    def test_two_doors_bar_what_either_bars(self):
        for wide in WIDES:
            doors = all_doors(9)
            for one, other in zip(doors, doors[7:] + doors[:7]):
                each = zip(clear_of(wide, 9, [one]), clear_of(wide, 9, [other]))
                self.assertEqual(clear_of(wide, 9, [one, other]), [min(pair) for pair in each])

    def test_no_fewer_strips_and_at_most_one_more(self):
        for wide in WIDES:
            for across in ACROSSES:
                least = (across + wide - 1) // wide
                for o, seams, strips in all_laid(wide, across):
                    self.assertIn(strips[0], (least, least + 1))
                    self.assertEqual(strips[0], len(seams) + 1)
                    self.assertEqual(strips[3], strips[0] * wide * 3)

    def test_the_whole_room_is_laid(self):
        for wide in WIDES:
            for across in ACROSSES:
                for o, seams, strips in all_laid(wide, across):
                    edges = [0] + seams + [across]
                    widths = [high - low for low, high in zip(edges, edges[1:])]
                    self.assertEqual(widths[0], min(o, across))
                    self.assertEqual(widths[1:-1], [wide] * (len(widths) - 2))
                    self.assertTrue(1 <= min(widths) <= max(widths) <= wide)
                    self.assertEqual(strips[1:3], [widths[-1], min(widths)])

    def test_mirrored_it_is_the_same(self):
        for wide in WIDES:
            for across in ACROSSES:
                laid = all_laid(wide, across)
                for o, seams, strips in laid:
                    mirrored = laid[strips[1] - 1]
                    self.assertEqual([across - seam for seam in reversed(seams)], mirrored[1])
                    self.assertEqual(strips[2], mirrored[2][2])
                for low, high in all_doors(across):
                    clear = clear_of(wide, across, [(low, high)])
                    turned = clear_of(wide, across, [(across - high, across - low)])
                    self.assertEqual(clear, [turned[strips[1] - 1] for o, seams, strips in laid])


def some_openings(dice, wall, wide):
    openings = []
    for place in range(dice.randint(0, 5)):
        low = dice.randrange(wall)
        openings.append((low, min(wall, low + dice.randint(1, wide // 2 + 2))))
    return openings


def many_rooms(count=400):
    """Of each how wide strips are, across, along, doors, sides."""
    for seed in range(count):
        dice = random.Random(seed)
        wide, across, along = dice.randint(1, 60), dice.randint(1, 200), dice.randint(1, 200)
        yield wide, across, along, some_openings(dice, across, wide), some_openings(dice, along, wide)


def last_told(room, *calls):
    return ask(*furnished(*room), *calls)[-len(calls):]


def clear_told(room):
    return ask_last(*furnished(*room), ("firsts",))[1:]


def strips_told(room, firsts):
    """Of each first strip what strips answers."""
    return {o: ask_last(*furnished(*room), ("strips", o)) for o in firsts}


def mirrored(wide, across, along, doors, sides):
    return wide, across, along, [(across - high, across - low) for low, high in doors], sides


class ManyRooms(unittest.TestCase):
    def test_they_are_of_all_kinds(self):
        kinds = {(bool(clear_told(room)), bool(clear_told((room[0], room[2], room[1], room[4], room[3]))))
                 for room in many_rooms()}
        self.assertEqual(len(kinds), 4)

    def test_just_when(self):
        for room in many_rooms():
            wide, across, along, doors, sides = room
            left = {place % wide for low, high in doors for place in range(low + 1, high)}
            clear = [o for o in range(1, wide + 1) if o % wide not in left]
            firsts, best, fewest = last_told(room, ("firsts",), ("best",), ("fewest",))
            self.assertEqual(firsts, [len(clear)] + clear)
            if clear:
                self.assertIn(best[0], clear)
            else:
                self.assertEqual((best, fewest), ([-33], [-33]))

    def test_one_door_alone_bars_all_just_if_it_is_wider_than_a_strip(self):
        for wide, across, along, doors, sides in many_rooms():
            for low, high in [(0, across), (across // 3, min(across, across // 3 + wide)), *doors]:
                barred = high - low > wide
                told = last_told((wide, across, along), ("could", low, high), ("door", low, high), ("firsts",))
                self.assertEqual(told[0], [0 if barred else 1])
                self.assertEqual(told[2] == [0], barred)

    def test_no_fewer_strips(self):
        for room in many_rooms():
            wide, across, along, doors, sides = room
            least = (across + wide - 1) // wide
            strips = strips_told(room, range(1, wide + 1))
            self.assertLessEqual({told[0] for told in strips.values()}, {least, least + 1})
            clear = clear_told(room)
            if clear:
                fewest, best = last_told(room, ("fewest",), ("best",))
                self.assertEqual(fewest[0], min(strips[o][0] for o in clear))
                self.assertEqual(best, [best[0], fewest[0], strips[best[0]][2]])
                rank = max((-strips[o][0], strips[o][2], o) for o in clear)
                self.assertEqual(best[0], rank[2])

    def test_the_whole_room_is_laid(self):
        for wide, across, along, doors, sides in many_rooms(100):
            for o in range(1, wide + 1):
                seams, strips = last_told((wide, across, along, doors, sides), ("seams", o), ("strips", o))
                edges = [0] + seams[1:] + [across]
                widths = [high - low for low, high in zip(edges, edges[1:])]
                self.assertTrue(1 <= min(widths) <= max(widths) <= wide)
                self.assertEqual(strips, [len(widths), widths[-1], min(widths), len(widths) * wide * along])

    def test_mirrored_it_is_the_same(self):
        questions = [("fewest",), ("widths", 1, 60), ("best_width", 1, 60)]
        for room in many_rooms(150):
            wide, across = room[:2]
            other = mirrored(*room)
            self.assertEqual(last_told(room, *questions), last_told(other, *questions))
            best, other_best = last_told(room, ("best",))[0], last_told(other, ("best",))[0]
            self.assertEqual(best[1:], other_best[1:])
            strips = strips_told(room, range(1, wide + 1))
            # A first strip wider than the room is as one that is as wide: the mirror shows that one.
            clear = sorted({strips[o][1] for o in clear_told(room)})
            self.assertEqual(clear, [o for o in clear_told(other) if o <= across])

    def test_a_door_fewer_bars_no_more(self):
        for room in many_rooms(200):
            doors = room[3]
            clear = set(clear_told(room))
            for i in range(len(doors)):
                told = last_told(room, ("undoor", i), ("firsts",), ("fewest",), ("widths", 1, 60))
                self.assertLessEqual(clear, set(told[1][1:]))
                before = last_told(room, ("fewest",), ("widths", 1, 60))
                self.assertLessEqual(set(before[1][1:]), set(told[3][1:]))
                if clear:
                    self.assertLessEqual(told[2][0], before[0][0])

    def test_a_door_more_is_what_could_and_widest_tell(self):
        for wide, across, along, doors, sides in many_rooms(200):
            room = (wide, across, along, doors[:4], sides)
            low = across * 3 // 7
            end = last_told(room, ("widest", low))[0][0]
            if not clear_told(room):
                self.assertEqual(end, -33)
                continue
            self.assertTrue(low < end <= across)
            self.assertNotEqual(last_told(room, ("door", low, end), ("firsts",))[1], [0])
            self.assertEqual(last_told(room, ("could", low, end)), [[1]])
            if end < across:
                self.assertEqual(last_told(room, ("door", low, end + 1), ("firsts",))[1], [0])
                self.assertEqual(last_told(room, ("could", low, end + 1)), [[0]])

    def test_the_best_way_round_needs_no_more_carpet_than_either(self):
        for room in many_rooms():
            wide, across, along, doors, sides = room
            each = []
            for way, laid in ((0, room), (1, (wide, along, across, sides, doors))):
                best = last_told(laid, ("best",))[0]
                if best != [-33]:
                    each.append([last_told(laid, ("strips", best[0]))[0][3], way, best[0]])
            told = last_told(room, ("way_round",))[0]
            if each:
                carpet, way, first = min(each)
                self.assertEqual(told, [way, first, carpet])
            else:
                self.assertEqual(told, [-33])

    def test_a_room_turned_and_back(self):
        questions = [("state",), ("firsts",), ("best",), ("widest", 0), ("hits", 1)]
        for room in many_rooms(150):
            wide, across, along, doors, sides = room
            plain = last_told(room, *questions)
            turned = last_told((wide, along, across, sides, doors), *questions)
            told = last_told(room, ("turn",), *questions, ("turn",), *questions)
            self.assertEqual(told[1][:5], turned[0][:5])
            self.assertEqual(told[2:6], turned[1:])
            self.assertEqual(told[7][:5], plain[0][:5])
            self.assertEqual(told[8:], plain[1:])
            told = last_told(room, ("turn",), ("back",), *questions)
            self.assertEqual(told[3:], plain[1:])
            self.assertEqual(told[2][:5], plain[0][:5])

    def test_the_best_width_needs_no_more_carpet_than_any(self):
        for room in many_rooms(40):
            wide, across, along, doors, sides = room
            needed = []
            for width in range(1, 61):
                best = last_told(room, ("wide", width), ("best",))[1]
                if best != [-33]:
                    needed.append((best[1] * width * along, width))
            told = last_told(room, ("widths", 1, 60), ("best_width", 1, 60))
            self.assertEqual(told[0], [len(needed)] + [width for carpet, width in needed])
            self.assertEqual(told[1], [min(needed)[1], min(needed)[0]] if needed else [-33])


if __name__ == "__main__":
    unittest.main()
