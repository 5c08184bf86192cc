"""The calls set and level. Promise 5: what's refused, what only asks, changes nothing."""

import unittest

from helper import HIGHEST, ask, ask_last, level, line, out, patch, set_level, state_after

NO_CHANNELS = (0, 65, 66, 100, 128, 256, HIGHEST)
NO_LEVELS = (101, 102, 255, 256, HIGHEST)


class SetLevel(unittest.TestCase):
    def test_all_channels_of_a_new_desk_are_at_0(self):
        for channel in range(1, 65):
            self.assertEqual(ask(level(channel)), [[0]])

    def test_channels_at_both_ends(self):
        for channel in (1, 2, 63, 64):
            self.assertEqual(ask(set_level(channel, 42), level(channel)), [[0], [42]])

    def test_every_level(self):
        for value in range(0, 101):
            self.assertEqual(ask(set_level(9, value), level(9)), [[0], [value]])

    def test_no_such_channel(self):
        for channel in NO_CHANNELS:
            self.assertEqual(ask(level(channel)), [[-1]])
            for value in (0, 1, 64, 100):
                self.assertEqual(ask(set_level(channel, value)), [[-1]])

    def test_no_level(self):
        for value in NO_LEVELS:
            for channel in (1, 64):
                self.assertEqual(ask(set_level(channel, value)), [[-1]])

    def test_neither_channel_nor_level(self):
        for channel in NO_CHANNELS:
            for value in NO_LEVELS:
                self.assertEqual(ask(set_level(channel, value)), [[-1]])

    def test_a_channel_is_set_by_itself(self):
        for channel in range(1, 65):
            told = ask(set_level(channel, 77), *[level(other) for other in range(1, 65)])
            self.assertEqual(told[1:], [[77 if other == channel else 0] for other in range(1, 65)])

    def test_the_last_setting_holds(self):
        told = ask(set_level(1, 100), set_level(1, 50), level(1), set_level(1, 0), level(1))
        self.assertEqual(told, [[0], [0], [50], [0], [0]])

    def test_a_refusal_changes_nothing(self):
        held = [patch(line(1, 1) + line(2, 64)), set_level(1, 30), set_level(64, 70)]
        before = state_after(*held)
        for channel in (1, 64):
            for value in NO_LEVELS:
                self.assertEqual(state_after(*held, set_level(channel, value)), before)
        for channel in NO_CHANNELS:
            for value in (0, 100, 101, HIGHEST):
                self.assertEqual(state_after(*held, set_level(channel, value)), before)

    def test_level_changes_nothing(self):
        held = [patch(line(1, 1) + line(2, 64)), set_level(1, 30), set_level(64, 70)]
        before = state_after(*held)
        for channel in (0, 1, 64, 65, HIGHEST):
            self.assertEqual(state_after(*held, level(channel)), before)

    def test_the_patch_needs_no_dimmer_on_the_channel(self):
        self.assertEqual(ask_last(patch(line(1, 1)), set_level(2, 100), level(2)), [100])
        self.assertEqual(ask_last(patch(line(1, 1)), set_level(2, 100), out(1)), [0])


if __name__ == "__main__":
    unittest.main()
