"""Promise 1, printed: a patch has one text. Promise 5: print only asks."""

import unittest

from helper import ask, ask_last, line, patch, print_patch, set_level, state_after

BOUNDS = (("number", 1, 128), ("channel", 1, 64), ("limit", 1, 100), ("load", 0, 5000), ("phase", 1, 3))


class Print(unittest.TestCase):
    def assert_printed(self, text):
        self.assertEqual(ask_last(patch(text), print_patch()), [len(text), *text])

    def test_the_text_is_just_what_was_handed_in(self):
        self.assert_printed(b"1 1 linear 100 500 1\n")
        self.assert_printed(b"1 2 linear 3 4 1\n20 30 square 40 50 2\n99 9 soft 99 999 3\n128 64 switch 1 5000 1\n")

    def test_each_field_at_both_ends(self):
        for field, least, greatest in BOUNDS:
            self.assert_printed(line(**{field: least}))
            self.assert_printed(line(**{field: greatest}))

    def test_every_load(self):
        for load in range(0, 5001):
            self.assert_printed(line(load=load))

    def test_the_longest_patch(self):
        text = b"".join(line(n, 64, "square", 100, 5000, 3) for n in range(1, 129))
        self.assert_printed(text)

    def test_the_patch_without_dimmers(self):
        self.assertEqual(ask(print_patch()), [[0]])
        self.assert_printed(b"")

    def test_what_was_printed_is_read_again(self):
        text = bytes(ask_last(patch(line(3) + line(4, curve="soft")), print_patch())[1:])
        self.assertEqual(ask(patch(text), print_patch()), [[2], [len(text), *text]])

    def test_levels_are_not_in_the_text(self):
        self.assertEqual(ask_last(patch(line(1)), set_level(1, 100), print_patch()), [len(line(1)), *line(1)])

    def test_print_changes_nothing(self):
        held = [patch(line(1) + line(8, 5)), set_level(5, 44)]
        self.assertEqual(state_after(*held, print_patch(), print_patch()), state_after(*held))


if __name__ == "__main__":
    unittest.main()
