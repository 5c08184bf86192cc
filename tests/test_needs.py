"""Promise 2: no lower level than needs tells gives as much. Promise 5: it only asks."""

import unittest

from helper import (
    HIGHEST, ask, ask_last, given_at_all_levels, level, line, needs, out, outs, patch, set_level, state_after,
)

CURVES = ("linear", "square", "soft", "switch")
MUCHES = (0, 1, 2, 3, 25, 26, 64, 127, 128, 129, 254, 255, 256, 257, HIGHEST)

# Curve, limit, much, the level that is needed: worked out by hand from the document.
BY_HAND = (
    ("linear", 100, 0, 0), ("linear", 100, 1, 1), ("linear", 100, 3, 1), ("linear", 100, 4, 2),
    ("linear", 100, 128, 50), ("linear", 100, 129, 51), ("linear", 100, 255, 100),
    ("square", 100, 0, 0), ("square", 100, 1, 5), ("square", 100, 64, 50), ("square", 100, 255, 100),
    ("soft", 100, 0, 0), ("soft", 100, 1, 3), ("soft", 100, 128, 50), ("soft", 100, 255, 98),
    ("switch", 100, 0, 0), ("switch", 100, 1, 50), ("switch", 100, 255, 50),
    # A hundredth, rounded down, is 1 from 100 of 255 on, and 2 from 200 on.
    ("linear", 1, 0, 0), ("linear", 1, 1, 40), ("linear", 1, 2, 79),
    ("square", 1, 0, 0), ("square", 1, 1, 63), ("square", 1, 2, 89),
    ("soft", 1, 0, 0), ("soft", 1, 1, 43), ("soft", 1, 2, 70),
    ("switch", 1, 0, 0), ("switch", 1, 1, 50), ("switch", 1, 2, 50),
)


class Needs(unittest.TestCase):
    def test_levels_worked_out_by_hand(self):
        for curve, limit, much, expected in BY_HAND:
            told = ask_last(patch(line(5, 9, curve, limit)), needs(5, much))
            self.assertEqual(told, [expected], (curve, limit, much))

    def test_there_is_none(self):
        for curve in CURVES:
            for limit, much in ((100, 256), (100, HIGHEST), (1, 3), (1, 255), (1, 256), (1, HIGHEST), (50, 128)):
                told = ask_last(patch(line(5, 9, curve, limit)), needs(5, much))
                self.assertEqual(told, [-3], (curve, limit, much))

    def test_the_least_level_of_every_curve_and_limit(self):
        for curve in CURVES:
            for limit in range(1, 101):
                given = given_at_all_levels(curve, limit)
                told = ask(patch(line(5, 9, curve, limit)), *[needs(5, much) for much in range(0, 258)])[1:]
                for much, each in enumerate(told):
                    enough = [value for value in range(0, 101) if given[value] >= much]
                    self.assertEqual(each, [enough[0] if enough else -3], (curve, limit, much))

    def test_the_level_that_is_told_gives_as_much_and_the_one_below_less(self):
        for curve in CURVES:
            for limit in (1, 2, 50, 99, 100):
                for much in range(1, 255 * limit // 100 + 1):
                    text = patch(line(5, 9, curve, limit))
                    needed = ask_last(text, needs(5, much))[0]
                    self.assertGreaterEqual(needed, 1)
                    at, below = ask(text, set_level(9, needed), out(5), set_level(9, needed - 1), out(5))[2::2]
                    self.assertGreaterEqual(at[0], much, (curve, limit, much))
                    self.assertLess(below[0], much, (curve, limit, much))

    def test_a_dimmer_that_is_not_in_the_patch(self):
        for dimmer in (0, 1, 128, 129, HIGHEST):
            self.assertEqual(ask(needs(dimmer, 0)), [[-4]])
        for dimmer in (0, 1, 4, 6, 9, 127, 129, 256 + 5, HIGHEST):
            self.assertEqual(ask_last(patch(line(5, 9) + line(128)), needs(dimmer, 1)), [-4])

    def test_not_in_the_patch_comes_ahead_of_there_is_none(self):
        for much in (256, HIGHEST):
            self.assertEqual(ask_last(patch(line(5)), needs(6, much)), [-4])
            self.assertEqual(ask_last(patch(line(5)), needs(5, much)), [-3])

    def test_a_dimmer_is_found_by_its_number_not_by_its_place(self):
        text = line(2, 1, "linear") + line(3, 1, "square") + line(128, 1, "switch", 40)
        told = ask(patch(text), needs(2, 64), needs(3, 64), needs(128, 64), needs(128, 103), needs(1, 64))
        self.assertEqual(told[1:], [[25], [50], [50], [-3], [-4]])

    def test_the_channels_levels_do_not_matter(self):
        text = line(5, 9, "soft", 70) + line(6, 10)
        expected = ask(patch(text), *[needs(5, much) for much in MUCHES])[1:]
        for value in (0, 1, 49, 50, 99, 100):
            for number in (9, 10):
                told = ask(patch(text), set_level(number, value), *[needs(5, much) for much in MUCHES])[2:]
                self.assertEqual(told, expected, (number, value))

    def test_the_channels_levels_are_not_changed(self):
        told = ask(patch(line(5, 9)), set_level(9, 20), needs(5, 255), level(9), out(5), outs(), needs(5, 0), level(9))
        self.assertEqual(told[2:], [[100], [20], [51], [1, 51], [0], [20]])

    def test_needs_changes_nothing(self):
        held = [patch(line(5, 9) + line(6, 10, "soft", 40)), set_level(9, 33), set_level(10, 90)]
        before = state_after(*held)
        for dimmer in (0, 5, 6, 7, 129, HIGHEST):
            for much in (0, 1, 100, 255, 256, HIGHEST):
                self.assertEqual(state_after(*held, needs(dimmer, much)), before)


if __name__ == "__main__":
    unittest.main()
