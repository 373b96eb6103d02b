"""answers: its numbering of the calls, its form, and what it leaves alone."""

import unittest

from lines import CALLS, GREATEST, ask, assert_refused, furnished, line
from model import told
from seamsdoors.carpet import answers

# A call, as it is handed in, and its answer, as it is given back.
ROWS = (
    ([0, 10, 45, 20], [1, 0]),
    ([1, 12, 18], [1, 0]),
    ([1, 40, 45], [1, 1]),
    ([2, 3, 9], [1, 0]),
    ([8, 3], [6, 5, 3, 13, 23, 33, 43]),
    ([9, 3], [4, 6, 2, 2, 1200]),
    ([10, 3], [1, 0]),
    ([10, 10], [1, 1]),
    ([5, 7], [1, 10]),
    ([6, 50, 30], [2, 45, 20]),
    ([7], [1, 4]),
    ([3, 0], [1, 1]),
    ([4, 0], [1, 0]),
    ([7], [1, 5]),
    ([1, 9, 9], [1, -22]),
    ([3, 5], [1, -2]),
    ([6, 1, 1], [1, -16]),
    ([8, 0], [1, -22]),
    ([0, 0, 0, 0], [1, -22]),
    ([21], [6, 7, 45, 20, 1, 1, 5]),
    ([15], [1, 20]),
    ([21], [6, 7, 20, 45, 1, 1, 6]),
    ([11], [3, 2, 2, 3]),
    ([12], [3, 3, 4, 3]),
    ([13], [1, 4]),
    ([14], [3, 1, 5, 980]),
    ([16, 4, 7], [3, 2, 6, 7]),
    ([17, 7, 11], [2, 10, 900]),
    ([18, 3, 10], [1, 1]),
    ([19, 4], [1, 10]),
    ([20, 4], [2, 1, 0]),
    ([17, 1, 61], [1, -22]),
    ([1, 2, 19], [1, 1]),
    ([11], [1, 0]),
    ([12], [1, -33]),
    ([14], [3, 1, 5, 980]),
)
ALL = [number for call, answer in ROWS for number in call]
ALL_ANSWERED = [number for call, answer in ROWS for number in answer]


class Interface(unittest.TestCase):
    def test_numbers_and_form(self):
        self.assertEqual(answers(ALL), ALL_ANSWERED)

    def test_gives_back_a_list_of_whole_numbers(self):
        given = answers(ALL)
        self.assertIs(type(given), list)
        self.assertEqual({type(number) for number in given}, {int})

    def test_what_is_handed_in_is_not_changed(self):
        handed = list(ALL)
        answers(handed)
        self.assertEqual(handed, ALL)

    def test_what_is_handed_in_is_not_changed_for_a_while_either(self):
        class Watched(list):
            def refuse(self, *args, **kwargs):
                raise AssertionError("the list that was handed in is changed")

            append = extend = insert = remove = pop = clear = sort = reverse = refuse
            __setitem__ = __delitem__ = __iadd__ = __imul__ = refuse

        self.assertEqual(answers(Watched(ALL)), ALL_ANSWERED)

    def test_two_runs_answer_alike(self):
        self.assertEqual(answers(list(ALL)), answers(list(ALL)))

    def test_nothing_is_kept_from_one_time_to_the_next(self):
        answers(ALL)
        self.assertEqual(answers([8, 3]), [1, -61])
        first = answers(ALL)
        first.append(0)
        self.assertEqual(answers(ALL), ALL_ANSWERED)

    def test_a_hundred_calls(self):
        replies = ask(("begin", 1, 200, 200), *[("seams", 1)] * 99)
        self.assertEqual(replies, [[0]] + [[199] + list(range(1, 200))] * 99)

    def test_a_hundred_calls_of_each_kind(self):
        before = furnished(60, 200, 200, [(0, 1), (1, 2), (5, 6), (7, 8), (199, 200)])
        for name, count in CALLS[8:]:
            call = (name,) + (1, 60)[:count]
            replies = ask(*before, *[call] * 94)[6:]
            expected = told(before + [call] * 94)[6:]
            self.assertEqual(replies, expected, name)

    def test_any_two_calls_behind_a_begin_are_answered_whole(self):
        for number in (0, 1, 5, GREATEST):
            each = [(name,) + (number,) * count for name, count in CALLS]
            for one in each:
                for other in each:
                    calls = [("begin", 7, 20, 30), ("door", 4, 9), one, other, ("state",)]
                    self.assertEqual(ask(*calls), told(calls), calls)

    def test_a_hundred_calls_without_a_begin(self):
        calls = [(name,) + (1,) * count for name, count in CALLS[1:]] * 5
        self.assertEqual(ask(*calls[:100]), [[-61]] * 100)

    def test_one_call(self):
        self.assertEqual(answers([0, 60, 200, 200]), [1, 0])
        self.assertEqual(answers([7]), [1, -61])


class Greatest(unittest.TestCase):
    """The greatest number, in each place in which one is handed in."""

    def test_is_refused_in_each_place(self):
        before = [("begin", 9, 40, 30), ("door", 2, 9), ("side", 3, 8)]
        good = (
            ("begin", (9, 40, 30), -22), ("door", (1, 2), -22), ("side", (1, 2), -22), ("undoor", (0,), -2),
            ("unside", (0,), -2), ("wide", (9,), -22), ("room", (40, 30), -22), ("seams", (1,), -22),
            ("strips", (1,), -22), ("clear", (1,), -22), ("widths", (1, 60), -22), ("best_width", (1, 60), -22),
            ("could", (1, 2), -22), ("widest", (1,), -22), ("hits", (1,), -22),
        )
        for name, numbers, refusal in good:
            self.assertGreaterEqual(ask(*before, (name,) + numbers)[-1][0], 0)
            for place in range(len(numbers)):
                wrong = numbers[:place] + (GREATEST,) + numbers[place + 1:]
                assert_refused(self, before, (name,) + wrong, refusal)
            assert_refused(self, before, (name,) + (GREATEST,) * len(numbers), refusal)

    def test_is_a_number_of_the_call_that_stands_ahead(self):
        self.assertEqual(answers(line([("door", GREATEST, GREATEST), ("back",)])), [1, -61, 1, -61])


if __name__ == "__main__":
    unittest.main()
