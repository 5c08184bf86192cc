"""answers(calls): how calls stand in the list, how answers are given back, and that nothing is kept."""

import unittest

from helper import split_up
from stagelamps.desk import UnknownCall, answers

TEXT = list(b"1 1 linear 100 500 1\n2 64 switch 40 0 3\n")
MANY = [0, len(TEXT), *TEXT, 1, 2, 1, 50, 2, 64, 49, 4, 1, 4, 2, 3, 64, 0, 2, 49, 10, 2, 65, 1, 4, 3, 1]
MANY_TOLD = [
    1, 2,
    len(TEXT) + 1, len(TEXT), *TEXT,
    1, 0,
    1, 0,
    1, 128,
    1, 0,
    1, 49,
    3, -6, 0, 1,
    1, -1,
    1, -4,
    len(TEXT) + 1, len(TEXT), *TEXT,
]
# Each of the ten calls, those that tell of the desk once before and once behind what changes it.
ALL_TEN = [
    5, 8, 1, 7, 1, 0,
    0, len(TEXT), *TEXT,
    1,
    2, 1, 50,
    3, 1,
    4, 1,
    5,
    6, 64,
    7, 2, 102,
    8, 1,
    9, 4, 5, 5, 5, 5,
    2, 64, 50,
    5,
    8, 3,
    6, 2,
    6, 65,
    7, 2, 103,
    7, 3, 103,
    8, 4,
    9, 1, 5001,
    9, 0,
    3, 64,
]
ALL_TEN_TOLD = [
    1, 0, 1, 0, 1, -4,
    1, 2,
    len(TEXT) + 1, len(TEXT), *TEXT,
    1, 0,
    1, 50,
    1, 128,
    3, 2, 128, 0,
    2, 1, 2,
    1, 50,
    1, 64000,
    5, 10, 1, 1, 2, 2,
    1, 0,
    3, 2, 128, 102,
    1, 0,
    1, 0,
    1, -1,
    1, -3,
    1, -4,
    1, -1,
    1, -1,
    1, 0,
    1, 50,
]


class NeverChanged(list):
    """A list that refuses every change, also one that would be taken back."""

    def refuse(self, *parts, **named):
        raise AssertionError("what was handed in is not to be changed")

    __setitem__ = __delitem__ = __iadd__ = __imul__ = refuse
    append = extend = insert = pop = remove = clear = reverse = sort = refuse


def all_whole_numbers(values):
    return all(isinstance(value, int) and not isinstance(value, bool) for value in values)


class Answers(unittest.TestCase):
    def test_each_call_by_itself(self):
        self.assertEqual(answers([0, 0]), [1, 0])
        self.assertEqual(answers([0, 1, 10]), [3, -6, 0, 1])
        self.assertEqual(answers([0, 8193] + [10] * 8193), [1, -2])
        self.assertEqual(answers([1]), [1, 0])
        self.assertEqual(answers([2, 1, 100]), [1, 0])
        self.assertEqual(answers([2, 0, 100]), [1, -1])
        self.assertEqual(answers([3, 1]), [1, 0])
        self.assertEqual(answers([3, 65]), [1, -1])
        self.assertEqual(answers([4, 1]), [1, -4])
        self.assertEqual(answers([5]), [1, 0])
        self.assertEqual(answers([6, 1]), [1, 0])
        self.assertEqual(answers([6, 0]), [1, -1])
        self.assertEqual(answers([7, 1, 0]), [1, -4])
        self.assertEqual(answers([8, 1]), [1, 0])
        self.assertEqual(answers([8, 0]), [1, -1])
        self.assertEqual(answers([9, 0]), [1, 0])
        self.assertEqual(answers([9, 2, 4, 3]), [3, 4, 1, 2])
        self.assertEqual(answers([9, 1, 5001]), [1, -1])

    def test_several_calls_one_behind_another(self):
        self.assertEqual(answers(MANY), MANY_TOLD)

    def test_all_ten_calls_one_behind_another(self):
        self.assertEqual(answers(ALL_TEN), ALL_TEN_TOLD)

    def test_every_order_of_two_calls(self):
        alone = (
            ([0, 1, 10], [3, -6, 0, 1]), ([1], [1, 0]), ([2, 1, 0], [1, 0]), ([3, 1], [1, 0]), ([4, 9], [1, -4]),
            ([5], [1, 0]), ([6, 9], [1, 0]), ([7, 9, 9], [1, -4]), ([8, 3], [1, 0]), ([9, 2, 9, 8], [3, 9, 1, 2]),
        )
        for first, first_told in alone:
            for second, second_told in alone:
                self.assertEqual(answers(first + second), first_told + second_told)

    def test_bytes_of_a_text_are_not_taken_for_calls(self):
        self.assertEqual(answers([0, 6, 1, 2, 3, 4, 0, 1, 3, 1]), [3, -6, 0, 1, 1, 0])
        self.assertEqual(answers([0, 8193] + [1] * 8193 + [3, 64, 1]), [1, -2, 1, 0, 1, 0])

    def test_loads_of_a_list_are_not_taken_for_calls(self):
        self.assertEqual(answers([9, 3, 9, 9, 9, 3, 1]), [4, 9, 1, 2, 3, 1, 0])
        self.assertEqual(answers([9, 3000] + [1] * 3000 + [3, 64, 1]), [1, -1, 1, 0, 1, 0])

    def test_400_calls(self):
        calls = []
        expected = []
        for turn in range(200):
            calls += [2, turn % 64 + 1, turn % 101, 3, turn % 64 + 1]
            expected += [1, 0, 1, turn % 101]
        self.assertEqual(answers(calls), expected)

    def test_400_calls_of_all_kinds(self):
        calls = [0, len(TEXT), *TEXT, 1]
        expected = [1, 2, len(TEXT) + 1, len(TEXT), *TEXT]
        for turn in range(49):
            level = 2 * turn
            given = (255 * level + 50) // 100
            calls += [2, 1, level, 3, 1, 4, 1, 5, 6, 1, 7, 1, given, 8, 1, 9, 3, turn, turn, turn]
            expected += [1, 0, 1, level, 1, given, 3, 2, given, 0, 2, 1, 1, 1, level, 1, 500 * given]
            expected += [4, turn, 1, 2, 3] if turn else [4, 0, 1, 1, 1]
        for turn in range(6):
            calls += [7, 1, 256]
            expected += [1, -3]
        self.assertEqual(len(split_up(expected)), 400)
        self.assertEqual(answers(calls), expected)

    def test_as_many_lists_of_nine_loads_as_a_case_may_have(self):
        loads = [4201, 4337, 4463, 4591, 4703, 4817, 4931, 4973, 4999]
        calls = [9, 9, *loads] * 306
        told = split_up(answers(calls))
        self.assertEqual(len(told), 306)
        self.assertEqual([each for each in told if each != told[0]], [])
        self.assertEqual(len(told[0]), 10)

    def test_the_longest_list_of_calls(self):
        calls = [0, 29900] + [49] * 29900 + [3, 1] * 49
        self.assertEqual(len(calls), 30000)
        self.assertEqual(answers(calls), [1, -2] + [1, 0] * 49)

    def test_a_call_that_there_is_not(self):
        for number in (10, 11, 4294967295):
            with self.assertRaises(UnknownCall):
                answers([3, 1, number])

    def test_what_was_handed_in_stays_as_it_was(self):
        long_ones = ([0, 8193] + [10] * 8193, [9, 3000] + [1] * 3000)
        lists = (MANY, ALL_TEN, [2, 0, 0], [9, 9, 9, 8, 7, 6, 5, 4, 3, 2, 1], *long_ones)
        for handed_in in lists:
            calls = list(handed_in)
            answers(calls)
            self.assertEqual(calls, handed_in)

    def test_what_was_handed_in_is_not_changed_for_a_while_either(self):
        self.assertEqual(answers(NeverChanged(MANY)), MANY_TOLD)
        self.assertEqual(answers(NeverChanged(ALL_TEN)), ALL_TEN_TOLD)

    def test_what_was_given_back_is_a_list_of_its_own(self):
        calls = list(MANY)
        told = answers(calls)
        self.assertIs(type(told), list)
        told.clear()
        self.assertEqual(calls, MANY)
        self.assertEqual(answers(calls), MANY_TOLD)

    def test_a_second_time_answers_as_the_first(self):
        self.assertEqual(answers(MANY), answers(MANY))
        for turn in range(3):
            self.assertEqual(answers(ALL_TEN), ALL_TEN_TOLD)
        answers([0, len(TEXT), *TEXT, 2, 1, 100])
        self.assertEqual(answers([1, 3, 1, 4, 1]), [1, 0, 1, 0, 1, -4])
        self.assertEqual(answers([5, 6, 1, 7, 1, 0, 8, 1]), [1, 0, 1, 0, 1, -4, 1, 0])

    def test_answers_are_whole_numbers(self):
        self.assertTrue(all_whole_numbers(answers(MANY)))
        self.assertTrue(all_whole_numbers(answers(ALL_TEN)))


if __name__ == "__main__":
    unittest.main()
