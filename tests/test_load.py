"""Promise 3: the phases' loads together are all dimmers', each once. Promise 5: load only asks."""

import unittest

from helper import HIGHEST, ask, ask_last, line, load, outs, patch, set_level, state_after

NO_PHASES = (0, 4, 5, 255, 256, 257, HIGHEST)
CURVES = ("linear", "square", "soft", "switch")
SEVERAL = (
    line(1, 1, "linear", 100, 500, 1) + line(2, 2, "square", 50, 1000, 1) + line(3, 1, "soft", 10, 5000, 3)
    + line(90, 3, "switch", 100, 0, 3) + line(128, 2, "switch", 1, 4999, 3)
)


def many_dimmers(count):
    """Text of so many dimmers, with the load of each in order."""
    text = b""
    loads = []
    for n in range(1, count + 1):
        watts = n * 1237 % 5001
        loads.append(watts)
        text += line(n, n * 7 % 64 + 1, CURVES[n % 4], n * 31 % 100 + 1, watts, n * n % 3 + n % 2 + 1)
    return text, loads


class Load(unittest.TestCase):
    def test_no_such_phase(self):
        for phase in NO_PHASES:
            self.assertEqual(ask(load(phase)), [[-1]])
            self.assertEqual(ask_last(patch(SEVERAL), set_level(1, 100), load(phase)), [-1])

    def test_a_phase_without_dimmers(self):
        for phase in (1, 2, 3):
            self.assertEqual(ask(load(phase)), [[0]])
        told = ask(patch(SEVERAL), set_level(1, 100), set_level(2, 100), set_level(3, 100), load(2))
        self.assertEqual(told[-1], [0])

    def test_one_dimmer_on_each_phase(self):
        for phase in (1, 2, 3):
            told = ask(patch(line(1, 1, "linear", 100, 500, phase)), set_level(1, 50), load(1), load(2), load(3))
            self.assertEqual(told[2:], [[500 * 128 if other == phase else 0] for other in (1, 2, 3)])

    def test_several_dimmers_worked_out_by_hand(self):
        # linear 50: 128; square 70: 125, half of it 62; soft 50: 128, a tenth of it 12; switch 70: 255, a hundredth 2.
        told = ask(patch(SEVERAL), set_level(1, 50), set_level(2, 70), set_level(3, 99), load(1), load(2), load(3))
        self.assertEqual(told[4:], [[500 * 128 + 1000 * 62], [0], [5000 * 12 + 0 * 255 + 4999 * 2]])

    def test_all_channels_at_0(self):
        self.assertEqual(ask(patch(SEVERAL), load(1), load(2), load(3))[1:], [[0], [0], [0]])

    def test_loads_at_both_ends(self):
        for watts in (0, 1, 5000):
            told = ask_last(patch(line(1, 1, "linear", 100, watts, 2)), set_level(1, 100), load(2))
            self.assertEqual(told, [watts * 255])

    def test_the_greatest_load(self):
        text = b"".join(line(n, 64, "linear", 100, 5000, 3) for n in range(1, 129))
        told = ask(patch(text), set_level(64, 100), load(1), load(2), load(3))
        self.assertEqual(told[2:], [[0], [0], [128 * 5000 * 255]])

    def test_the_phases_together_are_all_dimmers_each_once(self):
        for count in (1, 2, 3, 50, 128):
            text, loads = many_dimmers(count)
            for step in (0, 1, 13, 50, 100):
                levels = [set_level(number, number * step % 101) for number in range(1, 65)]
                told = ask(patch(text), *levels, load(1), load(2), load(3), outs())
                given = told[-1][1:]
                self.assertEqual(len(given), count)
                together = sum(watts * each for watts, each in zip(loads, given))
                self.assertEqual(told[-4][0] + told[-3][0] + told[-2][0], together, (count, step))

    def test_a_dimmer_counts_for_its_own_phase_alone(self):
        for phase in (1, 2, 3):
            told = ask(patch(SEVERAL), patch(line(7, 7, "switch", 100, 10, phase)), set_level(7, 50), load(phase))
            self.assertEqual(told[-1], [2550])

    def test_load_changes_nothing(self):
        held = [patch(SEVERAL), set_level(1, 40), set_level(2, 90)]
        before = state_after(*held)
        for phase in (1, 2, 3, *NO_PHASES):
            self.assertEqual(state_after(*held, load(phase)), before)


if __name__ == "__main__":
    unittest.main()
