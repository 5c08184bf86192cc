"""Promise 4: no dealing has a lesser greatest phase than evenly's. Promise 5: it only asks."""

import unittest
from itertools import permutations, product

from helper import HIGHEST, ask, ask_last, evenly, line, patch, set_level, state_after

# Loads, then the answer: worked out by hand.
BY_HAND = (
    ([], [0]),
    ([0], [0, 1]),
    ([7], [7, 1]),
    ([5000], [5000, 1]),
    ([3, 4], [4, 1, 2]),
    ([4, 3], [4, 1, 2]),
    ([5, 0], [5, 1, 1]),
    ([0, 5], [5, 1, 1]),
    ([0, 0], [0, 1, 1]),
    ([1, 2, 3], [3, 1, 1, 2]),
    ([3, 2, 1], [3, 1, 2, 2]),
    ([5, 5, 5], [5, 1, 2, 3]),
    ([5, 5, 0], [5, 1, 2, 1]),
    ([1, 1, 1, 1], [2, 1, 1, 2, 2]),
    ([10, 1, 1, 1], [10, 1, 2, 2, 2]),
    ([1, 1, 1, 10], [10, 1, 1, 1, 2]),
    # Dealt by the greatest first, each to the least phase, these would come to 11: 9 is as small as can be.
    ([5, 5, 4, 4, 3, 3, 3], [9, 1, 2, 1, 2, 3, 3, 3]),
    ([5000] * 9, [15000, 1, 1, 1, 2, 2, 2, 3, 3, 3]),
    ([0] * 9, [0] + [1] * 9),
    ([1, 2, 3, 4, 5, 6, 7, 8, 9], [15, 1, 1, 1, 1, 1, 2, 3, 3, 2]),
)


def best_of_all(loads):
    """The answer, found among the dealings of every kind, which come in the order that the document asks for."""
    least = None
    for phases in product((1, 2, 3), repeat=len(loads)):
        sums = [0, 0, 0, 0]
        for load, phase in zip(loads, phases):
            sums[phase] += load
        if least is None or max(sums) < least[0]:
            least = [max(sums), *phases]
    return least


def scattered(count, turn, highest):
    """Loads that follow no order, the same at every run."""
    loads = []
    value = turn * 7919 + count
    for step in range(count):
        value = (value * 1103515245 + 12345) % 2 ** 31
        loads.append((value >> 8) % (highest + 1))
    return loads


class Evenly(unittest.TestCase):
    def assert_best(self, loads):
        self.assertEqual(ask_last(evenly(loads)), best_of_all(loads), loads)

    def test_dealings_worked_out_by_hand(self):
        for loads, expected in BY_HAND:
            self.assertEqual(ask_last(evenly(loads)), expected, loads)

    def test_the_dealings_worked_out_by_hand_are_best_of_all(self):
        for loads, expected in BY_HAND:
            self.assertEqual(best_of_all(loads), expected, loads)

    def test_every_list_of_small_loads(self):
        for count in range(0, 5):
            for loads in product(range(0, 6), repeat=count):
                self.assert_best(list(loads))
        for loads in product((0, 1, 2, 3), repeat=5):
            self.assert_best(list(loads))

    def test_scattered_loads_of_every_count(self):
        for count in range(1, 9):
            for turn in range(0, 12):
                for highest in (3, 40, 5000):
                    self.assert_best(scattered(count, turn, highest))

    def test_nine_loads(self):
        for turn in range(0, 6):
            for highest in (1, 9, 5000):
                self.assert_best(scattered(9, turn, highest))
        self.assert_best([2 ** step for step in range(0, 9)])
        self.assert_best([2 ** step for step in range(8, -1, -1)])
        self.assert_best([4999, 5000, 4998, 0, 1, 2, 5000, 5000, 3])

    def test_many_alike(self):
        for count in range(0, 10):
            for load in (0, 1, 5000):
                self.assert_best([load] * count)
        for count in range(0, 9):
            self.assert_best([7] * count + [8])
            self.assert_best([8] + [7] * count)
            self.assert_best([0] * count + [8])

    def test_the_phases_stand_in_the_lists_order(self):
        for loads in permutations((1, 2, 4, 6, 9)):
            told = ask_last(evenly(loads))
            self.assertEqual(told, best_of_all(loads))
            sums = [sum(load for load, other in zip(loads, told[1:]) if other == phase) for phase in (1, 2, 3)]
            self.assertEqual(max(sums), told[0])

    def test_loads_at_the_bound(self):
        for count in range(1, 10):
            for place in range(count):
                loads = [1] * count
                loads[place] = 5000
                self.assert_best(loads)

    def test_a_load_above_the_bound(self):
        for count in range(1, 10):
            for place in range(count):
                for high in (5001, 5002, 65536, HIGHEST):
                    loads = [1] * count
                    loads[place] = high
                    self.assertEqual(ask_last(evenly(loads)), [-1])

    def test_more_than_nine_loads(self):
        for count in (10, 11, 100, 3000):
            for load in (0, 1, 5000, 5001, HIGHEST):
                self.assertEqual(ask_last(evenly([load] * count)), [-1])

    def test_a_refused_list_is_passed_over_whole(self):
        told = ask(evenly([1] * 3000), evenly([5001, 3, 1]), evenly([2, 2]), evenly([]), evenly([5]))
        self.assertEqual(told, [[-1], [-1], [2, 1, 2], [0], [5, 1]])

    def test_patch_and_levels_do_not_matter(self):
        told = ask_last(patch(line(1, 1, load=5000, phase=1)), set_level(1, 100), evenly([3, 2, 1]))
        self.assertEqual(told, [3, 1, 2, 2])

    def test_evenly_changes_nothing(self):
        held = [patch(line(1, 1) + line(2, 64, phase=3)), set_level(1, 30), set_level(64, 70)]
        before = state_after(*held)
        for loads in ([], [5], [1, 2, 3, 4, 5, 6, 7, 8, 9], [5001], [1] * 10, [0] * 3000):
            self.assertEqual(state_after(*held, evenly(loads)), before)


if __name__ == "__main__":
    unittest.main()
