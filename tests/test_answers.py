"""answers(calls): how calls stand in the list, how answers are given back, and that nothing is kept."""

import unittest

from stagelamps.desk import answers

TEXT = list(b"1 1 linear 100 500 1\n2 64 switch 40 0 3\n")
MANY = [0, len(TEXT), *TEXT, 1, 2, 1, 50, 2, 64, 49, 4, 1, 4, 2, 3, 64, 0, 2, 49, 10, 2, 65, 1, 4, 3, 1]
MANY_TOLD = [
    1, 2,
    len(TEXT) + 1, len(TEXT), *TEXT,
    1, 0,
    1, 0,
    1, 128,
    1, 0,
    1, 49,
    3, -6, 0, 1,
    1, -1,
    1, -4,
    len(TEXT) + 1, len(TEXT), *TEXT,
]


def all_whole_numbers(values):
    return all(isinstance(value, int) and not isinstance(value, bool) for value in values)


class Answers(unittest.TestCase):
    def test_each_call_by_itself(self):
        self.assertEqual(answers([0, 0]), [1, 0])
        self.assertEqual(answers([0, 1, 10]), [3, -6, 0, 1])
        self.assertEqual(answers([0, 8193] + [10] * 8193), [1, -2])
        self.assertEqual(answers([1]), [1, 0])
        self.assertEqual(answers([2, 1, 100]), [1, 0])
        self.assertEqual(answers([2, 0, 100]), [1, -1])
        self.assertEqual(answers([3, 1]), [1, 0])
        self.assertEqual(answers([3, 65]), [1, -1])
        self.assertEqual(answers([4, 1]), [1, -4])

    def test_several_calls_one_behind_another(self):
        self.assertEqual(answers(MANY), MANY_TOLD)

    def test_bytes_of_a_text_are_not_taken_for_calls(self):
        self.assertEqual(answers([0, 6, 1, 2, 3, 4, 0, 1, 3, 1]), [3, -6, 0, 1, 1, 0])
        self.assertEqual(answers([0, 8193] + [1] * 8193 + [3, 64, 1]), [1, -2, 1, 0, 1, 0])

    def test_400_calls(self):
        calls = []
        expected = []
        for turn in range(200):
            calls += [2, turn % 64 + 1, turn % 101, 3, turn % 64 + 1]
            expected += [1, 0, 1, turn % 101]
        self.assertEqual(answers(calls), expected)

    def test_what_was_handed_in_stays_as_it_was(self):
        for calls in (list(MANY), [0, 8193] + [10] * 8193, [2, 0, 0]):
            before = list(calls)
            answers(calls)
            self.assertEqual(calls, before)

    def test_what_was_given_back_is_a_list_of_its_own(self):
        calls = list(MANY)
        told = answers(calls)
        self.assertIs(type(told), list)
        told.clear()
        self.assertEqual(calls, MANY)
        self.assertEqual(answers(calls), MANY_TOLD)

    def test_a_second_time_answers_as_the_first(self):
        self.assertEqual(answers(MANY), answers(MANY))
        answers([0, len(TEXT), *TEXT, 2, 1, 100])
        self.assertEqual(answers([1, 3, 1, 4, 1]), [1, 0, 1, 0, 1, -4])

    def test_answers_are_whole_numbers(self):
        self.assertTrue(all_whole_numbers(answers(MANY)))


if __name__ == "__main__":
    unittest.main()
