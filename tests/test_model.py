"""Many mixed lines, held against the model. The seeds are fixed: each run asks the same."""

import random
import unittest

from lines import COUNTS, GREATEST, ask
from model import told

BUILT = ("begin", "door", "side", "undoor", "unside", "wide", "room", "back", "seams", "strips", "clear")
WEIGHTS = (1, 8, 8, 4, 4, 4, 6, 12, 8, 8, 16)


def some_number(dice, limit):
    if dice.random() < 0.03:
        return dice.choice((0, 60, 61, 200, 201, GREATEST))
    return dice.randint(0, limit)


def some_call(dice, limit):
    name = dice.choices(BUILT, WEIGHTS)[0]
    if name in ("undoor", "unside"):
        limit = 4
    numbers = [some_number(dice, limit) for place in range(COUNTS[name])]
    if name in ("door", "side") and dice.random() < 0.8:
        numbers = sorted(numbers)
    if name == "room" and dice.random() < 0.8:
        numbers = [number + limit for number in numbers]
    return (name, *numbers)


def some_line(seed):
    dice = random.Random(seed)
    limit = dice.choice((3, 8, 20, 60))
    begin = [("begin", dice.randint(1, limit), dice.randint(1, 3 * limit), dice.randint(1, 3 * limit))]
    ahead = [some_call(dice, limit) for place in range(dice.choice((0, 0, 0, 2)))]
    return ahead + begin + [some_call(dice, limit) for place in range(dice.randint(1, 97))]


class Model(unittest.TestCase):
    def test_mixed_lines(self):
        for seed in range(1500):
            calls = some_line(seed)
            self.assertEqual(ask(*calls), told(calls), f"seed {seed}: {calls}")

    def test_the_lines_are_mixed_enough(self):
        answered = {(call[0], min(reply[0], 0)) for seed in range(300)
                    for call, reply in zip(some_line(seed), told(some_line(seed)))}
        for name in BUILT:
            self.assertIn((name, 0), answered)
        for case in (("door", -22), ("door", -28), ("side", -28), ("undoor", -2), ("unside", -2), ("wide", -22),
                     ("room", -22), ("room", -16), ("back", -2), ("seams", -22), ("clear", -61)):
            self.assertIn(case, answered)


if __name__ == "__main__":
    unittest.main()
