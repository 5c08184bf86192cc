"""The call channel: the dimmers that a channel works. Promise 5: it only asks."""

import unittest

from helper import HIGHEST, ask, ask_last, channel, line, patch, set_level, state_after

NO_CHANNELS = (0, 65, 66, 128, 256, 257, HIGHEST)
SEVERAL = line(1, 64) + line(2, 1) + line(9, 64, "soft") + line(10, 1, "switch") + line(100, 7) + line(128, 64)


class Channel(unittest.TestCase):
    def test_no_such_channel(self):
        for number in NO_CHANNELS:
            self.assertEqual(ask(channel(number)), [[-1]])
            self.assertEqual(ask_last(patch(SEVERAL), channel(number)), [-1])

    def test_a_channel_that_works_no_dimmer(self):
        for number in (1, 2, 63, 64):
            self.assertEqual(ask(channel(number)), [[0]])
        for number in (2, 6, 8, 10, 63):
            self.assertEqual(ask_last(patch(SEVERAL), channel(number)), [0])

    def test_a_channel_that_works_one(self):
        self.assertEqual(ask_last(patch(SEVERAL), channel(7)), [1, 100])
        for number in (1, 64):
            self.assertEqual(ask_last(patch(line(128, number)), channel(number)), [1, 128])

    def test_a_channel_that_works_several_their_numbers_rising(self):
        self.assertEqual(ask_last(patch(SEVERAL), channel(1)), [2, 2, 10])
        self.assertEqual(ask_last(patch(SEVERAL), channel(64)), [3, 1, 9, 128])

    def test_a_channel_that_works_all(self):
        text = b"".join(line(n, 33) for n in range(1, 129))
        told = ask(patch(text), channel(32), channel(33), channel(34))
        self.assertEqual(told[1:], [[0], [128, *range(1, 129)], [0]])

    def test_every_dimmer_is_worked_by_one_channel(self):
        text = b"".join(line(n, n * 37 % 64 + 1) for n in range(1, 129))
        told = ask(patch(text), *[channel(number) for number in range(1, 65)])[1:]
        for number, each in enumerate(told, start=1):
            expected = [n for n in range(1, 129) if n * 37 % 64 + 1 == number]
            self.assertEqual(each, [len(expected), *expected])

    def test_levels_do_not_matter(self):
        self.assertEqual(ask_last(patch(SEVERAL), set_level(64, 100), channel(64)), [3, 1, 9, 128])

    def test_it_follows_the_patch(self):
        told = ask(patch(SEVERAL), patch(line(3, 64)), channel(64), channel(1), patch(b""), channel(64))
        self.assertEqual(told[2:], [[1, 3], [0], [0], [0]])

    def test_channel_changes_nothing(self):
        held = [patch(SEVERAL), set_level(64, 40), set_level(7, 90)]
        before = state_after(*held)
        for number in (1, 7, 8, 64, *NO_CHANNELS):
            self.assertEqual(state_after(*held, channel(number)), before)


if __name__ == "__main__":
    unittest.main()
