"""The call outs: what each dimmer gives, in order. Promise 5: it only asks."""

import unittest

from helper import ask, ask_last, line, out, outs, patch, set_level, state_after

SEVERAL = (
    line(2, 1, "linear", 100) + line(3, 2, "square", 50) + line(7, 1, "soft", 10) + line(50, 64, "switch", 1)
    + line(127, 2, "linear", 99) + line(128, 3, "switch", 100)
)
NUMBERS = (2, 3, 7, 50, 127, 128)
LOOK = [set_level(1, 50), set_level(2, 30), set_level(64, 100), set_level(3, 49)]


class Outs(unittest.TestCase):
    def test_the_patch_without_dimmers(self):
        self.assertEqual(ask(outs()), [[0]])
        self.assertEqual(ask_last(set_level(1, 100), outs()), [0])
        self.assertEqual(ask_last(patch(line(1)), patch(b""), outs()), [0])

    def test_all_channels_at_0(self):
        self.assertEqual(ask_last(patch(SEVERAL), outs()), [6, 0, 0, 0, 0, 0, 0])

    def test_several_dimmers_worked_out_by_hand(self):
        # linear 50: 128; square 30: 23, half of it 11; soft 50: 128, a tenth of it 12; switch 100: 255, a hundredth 2;
        # linear 30: 77, 99 hundredths of it 76; switch 49: 0.
        self.assertEqual(ask_last(patch(SEVERAL), *LOOK, outs()), [6, 128, 11, 12, 2, 76, 0])

    def test_it_tells_what_out_tells_of_each(self):
        for level in range(0, 101):
            look = [set_level(1, level), set_level(2, 100 - level), set_level(64, level // 2), set_level(3, level)]
            told = ask(patch(SEVERAL), *look, outs(), *[out(number) for number in NUMBERS])
            self.assertEqual(told[5], [6] + [each[0] for each in told[6:]], level)

    def test_as_many_dimmers_as_there_can_be(self):
        text = b"".join(line(n, (n - 1) % 64 + 1, "linear", 100) for n in range(1, 129))
        levels = [set_level(number, number) for number in range(1, 65)]
        expected = [(255 * ((n - 1) % 64 + 1) * 2 + 100) // 200 for n in range(1, 129)]
        self.assertEqual(ask_last(patch(text), *levels, outs()), [128, *expected])

    def test_it_follows_the_patch_and_the_levels(self):
        told = ask(patch(line(9, 5)), outs(), set_level(5, 100), outs(), patch(line(8, 6) + line(9, 5)), outs())
        self.assertEqual(told[1::2], [[1, 0], [1, 255], [2, 0, 255]])

    def test_outs_changes_nothing(self):
        held = [patch(SEVERAL), *LOOK]
        self.assertEqual(state_after(*held, outs(), outs()), state_after(*held))


if __name__ == "__main__":
    unittest.main()
