"""Many mixed lines, held against the model. The seeds are fixed: each run asks the same."""

import random
import unittest

from lines import CALLS, COUNTS, GREATEST, ask
from model import told

NAMES = [name for name, count in CALLS]
WEIGHTS = {
    "begin": 1, "door": 10, "side": 10, "undoor": 5, "unside": 5, "wide": 5, "room": 6, "back": 14, "turn": 5,
    "clear": 8, "way_round": 8,
}
# Every refusal behind a begin that the document tells.
REFUSALS = (
    ("begin", -22), ("door", -22), ("door", -28), ("side", -22), ("side", -28), ("undoor", -2), ("unside", -2),
    ("wide", -22), ("room", -22), ("room", -16), ("back", -2), ("seams", -22), ("strips", -22), ("clear", -22),
    ("best", -33), ("fewest", -33), ("way_round", -33), ("widths", -22), ("best_width", -22), ("best_width", -33),
    ("could", -22), ("widest", -22), ("widest", -33), ("hits", -22),
)


def some_number(dice, limit):
    if dice.random() < 0.03:
        return dice.choice((0, 60, 61, 200, 201, GREATEST))
    return dice.randint(0, limit)


def some_opening(dice, limit):
    """Mostly narrow ones, so that there is often some first strip that is clear."""
    low = some_number(dice, limit)
    return [low, low + dice.randint(1, max(1, limit // 4))]


def some_call(dice, limit):
    name = dice.choices(NAMES, [WEIGHTS.get(name, 4) for name in NAMES])[0]
    if name in ("undoor", "unside"):
        limit = 4
    numbers = [some_number(dice, limit) for place in range(COUNTS[name])]
    if name in ("door", "side", "could") and dice.random() < 0.7:
        numbers = [min(number, GREATEST) for number in some_opening(dice, limit)]
    if name in ("widths", "best_width") and dice.random() < 0.8:
        numbers = sorted(numbers)
    if name == "room" and dice.random() < 0.8:
        numbers = [min(number + limit, GREATEST) for number in numbers]
    return (name, *numbers)


def some_line(seed):
    dice = random.Random(seed)
    limit = dice.choice((3, 8, 20, 60))
    begin = [("begin", dice.randint(1, limit), dice.randint(1, 3 * limit), dice.randint(1, 3 * limit))]
    ahead = [some_call(dice, limit) for place in range(dice.choice((0, 0, 0, 2)))]
    return ahead + begin + [some_call(dice, limit) for place in range(dice.randint(1, 97))]


class Model(unittest.TestCase):
    def test_mixed_lines(self):
        for seed in range(1500):
            calls = some_line(seed)
            self.assertEqual(ask(*calls), told(calls), f"seed {seed}: {calls}")

    def test_the_lines_are_mixed_enough(self):
        answered = {(call[0], min(reply[0], 0)) for seed in range(300)
                    for call, reply in zip(some_line(seed), told(some_line(seed)))}
        for name in NAMES:
            self.assertIn((name, 0), answered)
            if name != "begin":
                self.assertIn((name, -61), answered)
        for case in REFUSALS:
            self.assertIn(case, answered)
        # And no refusal that the document does not tell.
        self.assertEqual({case for case in answered if case[1] not in (0, -61)}, set(REFUSALS))


if __name__ == "__main__":
    unittest.main()
