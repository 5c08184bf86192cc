"""Promise 2: what a dimmer gives rises with the level, and never goes beyond its limit."""

import unittest
from fractions import Fraction
from math import floor

from helper import HIGHEST, ask, ask_last, given_at_all_levels, line, out, patch, set_level, state_after

CURVES = ("linear", "square", "soft", "switch")

# Written out by hand from the document: level, then what the curve comes to.
# 255 L / 100 lies midway at 10, 30, 50, 70 and 90, and soft's quotient at 50; square's never does.
COMES_TO = {
    "linear": {0: 0, 1: 3, 10: 26, 30: 77, 49: 125, 50: 128, 51: 130, 70: 179, 90: 230, 99: 252, 100: 255},
    "square": {0: 0, 1: 0, 4: 0, 5: 1, 49: 61, 50: 64, 51: 66, 99: 250, 100: 255},
    "soft": {0: 0, 1: 0, 2: 0, 3: 1, 49: 124, 50: 128, 51: 131, 99: 255, 100: 255},
    "switch": {0: 0, 1: 0, 49: 0, 50: 255, 51: 255, 100: 255},
}


def exact(curve, level):
    if curve == "linear":
        return Fraction(255 * level, 100)
    if curve == "square":
        return Fraction(255 * level ** 2, 10000)
    if curve == "soft":
        return Fraction(255 * level ** 2 * (300 - 2 * level), 1000000)
    return Fraction(255 if level >= 50 else 0)


class Out(unittest.TestCase):
    def test_curves_at_levels_worked_out_by_hand(self):
        for curve in CURVES:
            given = given_at_all_levels(curve, 100)
            for level, expected in COMES_TO[curve].items():
                self.assertEqual(given[level], expected, (curve, level))

    def test_curves_at_every_level(self):
        for curve in CURVES:
            expected = [floor(exact(curve, level) + Fraction(1, 2)) for level in range(0, 101)]
            self.assertEqual(given_at_all_levels(curve, 100), expected, curve)

    def test_every_limit_at_every_level(self):
        for curve in CURVES:
            full = given_at_all_levels(curve, 100)
            for limit in range(1, 101):
                expected = [floor(Fraction(value * limit, 100)) for value in full]
                self.assertEqual(given_at_all_levels(curve, limit), expected, (curve, limit))

    def test_limits_worked_out_by_hand(self):
        for limit, expected in ((1, 2), (2, 5), (39, 99), (40, 102), (50, 127), (99, 252), (100, 255)):
            for curve in CURVES:
                told = ask_last(patch(line(1, 1, curve, limit)), set_level(1, 100), out(1))
                self.assertEqual(told, [expected], (curve, limit))

    def test_the_limit_takes_from_the_rounded_curve(self):
        # 255 * 50 / 100 is 127.5: half of 128 is 64, half of 127.5 would be 63.
        self.assertEqual(ask_last(patch(line(1, 1, "linear", 50)), set_level(1, 50), out(1)), [64])

    def test_it_rises_and_stays_within_its_limit(self):
        for curve in CURVES:
            for limit in range(1, 101):
                given = given_at_all_levels(curve, limit)
                self.assertEqual(given, sorted(given), (curve, limit))
                self.assertLessEqual(given[-1] * 100, 255 * limit, (curve, limit))
                self.assertEqual(given[0], 0)

    def test_a_dimmer_that_is_not_in_the_patch(self):
        for dimmer in (0, 1, 128, 129, HIGHEST):
            self.assertEqual(ask(out(dimmer)), [[-4]])
        for dimmer in (0, 1, 4, 6, 127, 129, 256 + 5, HIGHEST):
            self.assertEqual(ask_last(patch(line(5) + line(128)), out(dimmer)), [-4])

    def test_a_dimmer_is_found_by_its_number_not_by_its_place(self):
        text = line(2, 1, "linear") + line(3, 2, "linear") + line(128, 3, "linear")
        told = ask(patch(text), set_level(1, 20), set_level(2, 40), set_level(3, 60), out(2), out(3), out(128), out(1))
        self.assertEqual(told[4:], [[51], [102], [153], [-4]])

    def test_dimmers_of_one_channel_each_give_their_own(self):
        text = line(1, 64, "linear", 100) + line(2, 64, "square", 100) + line(3, 64, "soft", 10) + line(4, 64, "switch", 1)
        told = ask(patch(text), set_level(64, 50), out(1), out(2), out(3), out(4))
        self.assertEqual(told[2:], [[128], [64], [12], [2]])

    def test_load_and_phase_do_not_matter(self):
        for load, phase in ((0, 1), (5000, 3)):
            told = ask_last(patch(line(1, 1, "linear", 100, load, phase)), set_level(1, 30), out(1))
            self.assertEqual(told, [77])

    def test_out_changes_nothing(self):
        held = [patch(line(5, 9) + line(6, 10, "soft", 40)), set_level(9, 33), set_level(10, 90)]
        before = state_after(*held)
        for dimmer in (0, 5, 6, 7, 128, 129, HIGHEST):
            self.assertEqual(state_after(*held, out(dimmer)), before)


if __name__ == "__main__":
    unittest.main()
