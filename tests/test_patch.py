"""Promise 1, read: a text is one patch's, or has one first fault. Promise 5, for what patch refuses."""

import unittest

from helper import ask, ask_last, level, line, out, patch, print_patch, set_level, state_after

# Field, least, greatest.
BOUNDS = (
    ("number", 1, 128),
    ("channel", 1, 64),
    ("limit", 1, 100),
    ("load", 0, 5000),
    ("phase", 1, 3),
)
CURVES = ("linear", "square", "soft", "switch")
GOOD = b"7 3 square 80 1200 2\n"


def full_patch():
    return b"".join(line(n, 64, "linear", 100, 5000, 3) for n in range(1, 129))


class PatchCase(unittest.TestCase):
    def assert_dimmers(self, text, count):
        self.assertEqual(ask_last(patch(text)), [count], text)

    def assert_fault(self, text, place, why):
        self.assertEqual(ask_last(patch(text)), [-6, place, why], text)

    def assert_no_line(self, wrong):
        """The line is wrong by itself, behind good ones, and ahead of good ones."""
        self.assert_fault(wrong, 0, 1)
        self.assert_fault(line(1) + line(2) + wrong, 2, 1)
        self.assert_fault(wrong + line(128), 0, 1)


class GoodTexts(PatchCase):
    def test_ordinary_texts(self):
        self.assert_dimmers(b"1 1 linear 100 500 1\n", 1)
        self.assert_dimmers(b"1 1 linear 100 500 1\n2 1 square 50 0 2\n10 64 soft 1 5000 3\n", 3)
        self.assert_dimmers(GOOD, 1)

    def test_a_text_of_no_lines(self):
        self.assert_dimmers(b"", 0)

    def test_each_curve(self):
        for curve in CURVES:
            self.assert_dimmers(line(curve=curve), 1)

    def test_each_field_at_both_ends_of_its_bounds(self):
        for field, least, greatest in BOUNDS:
            self.assert_dimmers(line(**{field: least}), 1)
            self.assert_dimmers(line(**{field: greatest}), 1)

    def test_every_value_of_every_field(self):
        for field, least, greatest in BOUNDS:
            for value in range(least, greatest + 1):
                self.assert_dimmers(line(**{field: value}), 1)

    def test_as_many_dimmers_as_there_can_be(self):
        self.assert_dimmers(full_patch(), 128)

    def test_numbers_may_leave_gaps_and_other_fields_may_fall(self):
        self.assert_dimmers(line(2, 9, "soft", 90, 900, 3) + line(9, 1, "linear", 1, 0, 1), 2)

    def test_numbers_rise_as_numbers_not_as_texts(self):
        self.assert_dimmers(line(9) + line(10) + line(100), 3)


class WrongLines(PatchCase):
    def test_each_field_just_outside_its_bounds(self):
        for field, least, greatest in BOUNDS:
            self.assert_no_line(line(**{field: least - 1}))
            self.assert_no_line(line(**{field: greatest + 1}))

    def test_each_field_far_outside_its_bounds(self):
        for field, least, greatest in BOUNDS:
            self.assert_no_line(line(**{field: 9999}))
            self.assert_no_line(line(**{field: 2 ** 32 + greatest}))

    def test_needless_noughts(self):
        for field, least, greatest in BOUNDS:
            for text in ("01", "001", "0001", "00001", "00", "0000"):
                self.assert_no_line(line(**{field: text}))

    def test_a_load_of_nought_has_one_nought(self):
        self.assert_dimmers(line(load="0"), 1)
        self.assert_no_line(line(load="00"))

    def test_numbers_of_more_than_four_digits(self):
        for field, least, greatest in BOUNDS:
            for text in ("10000", "00001", "50000", "1" * 5, "1" * 5000, "0" * 5000):
                self.assert_no_line(line(**{field: text}))

    def test_signs_that_are_no_digits(self):
        for field, least, greatest in BOUNDS:
            for text in ("+1", "-1", "-0", "1.0", "1_0", "0x1", "1,", "a", "/", ":", "1/", "1:", "1e0", "1\t"):
                self.assert_no_line(line(**{field: text}))

    def test_bytes_above_127(self):
        for sign in (128, 160, 177, 178, 185, 255):
            wrong = bytes([sign])
            self.assert_no_line(wrong + b" 1 linear 100 500 1\n")
            self.assert_no_line(b"1" + wrong + b"1 linear 100 500 1\n")
            self.assert_no_line(b"1 1 linear 100 500 1" + wrong + b"\n")
            self.assert_no_line(b"1 1 linear" + wrong + b" 100 500 1\n")

    def test_wrong_curve_words(self):
        words = ("Linear", "LINEAR", "linea", "linearr", "inear", "squar", "sof", "soft.", "Soft", "switc",
                 "switchh", "raenil", "lin", "1", "0", "linear,square", "linearsquare")
        for word in words:
            self.assert_no_line(line(curve=word))

    def test_missing_blanks(self):
        self.assert_no_line(b"11 linear 100 500 1\n")
        self.assert_no_line(b"1 1linear 100 500 1\n")
        self.assert_no_line(b"1 1 linear100 500 1\n")
        self.assert_no_line(b"1 1 linear 100500 1\n")
        self.assert_no_line(b"1 1 linear 100 5001\n")
        self.assert_no_line(b"11linear1005001\n")

    def test_additional_blanks(self):
        fields = line()[:-1].split(b" ")
        for place in range(len(fields)):
            doubled = fields[:place] + [b""] + fields[place:]
            self.assert_no_line(b" ".join(doubled) + b"\n")
        self.assert_no_line(line()[:-1] + b" \n")
        self.assert_no_line(b" \n")
        self.assert_no_line(b"     \n")

    def test_other_signs_in_the_place_of_a_blank(self):
        for sign in (b"\t", b"\r", b"\x00", b"\x0b", b"\xa0", b",", b"_"):
            self.assert_no_line(line()[:-1].replace(b" ", sign) + b"\n")
            self.assert_no_line(line()[:-1].replace(b" ", sign, 1) + b"\n")

    def test_missing_fields(self):
        fields = line()[:-1].split(b" ")
        for place in range(len(fields)):
            self.assert_no_line(b" ".join(fields[:place] + fields[place + 1:]) + b"\n")
            self.assert_no_line(b" ".join(fields[:place] + [b""] + fields[place + 1:]) + b"\n")

    def test_additional_fields(self):
        self.assert_no_line(b"1 1 linear 100 500 1 1\n")
        self.assert_no_line(b"1 1 1 linear 100 500 1\n")
        self.assert_no_line(b"1 1 linear soft 100 500 1\n")

    def test_additional_signs(self):
        self.assert_no_line(b"#1 1 linear 100 500 1\n")
        self.assert_no_line(b"1 1 linear 100 500 1;\n")
        self.assert_no_line(b"1 1 linear 100 500 1\r\n")
        self.assert_no_line(b"1 1 linear 100 500 1\x00\n")

    def test_fields_in_another_order(self):
        self.assert_no_line(b"1 1 100 linear 500 1\n")
        self.assert_no_line(b"linear 1 1 100 500 1\n")

    def test_empty_lines(self):
        self.assert_fault(b"\n", 0, 1)
        self.assert_fault(b"\n\n", 0, 1)
        self.assert_fault(b"\n" + line(1), 0, 1)
        self.assert_fault(line(1) + b"\n" + line(2), 1, 1)
        self.assert_fault(line(1) + line(2) + b"\n", 2, 1)

    def test_a_text_that_ends_before_its_byte_10(self):
        self.assert_fault(line(1)[:-1], 0, 1)
        self.assert_fault(line(1) + line(2)[:-1], 1, 1)
        self.assert_fault(line(1) + b"2", 1, 1)
        self.assert_fault(line(1) + b" ", 1, 1)
        self.assert_fault(b"x", 0, 1)

    def test_every_beginning_of_a_text(self):
        text = line(1) + line(2, curve="switch")
        first = len(line(1))
        for length in range(len(text)):
            if length in (0, first):
                self.assert_dimmers(text[:length], 1 if length else 0)
            else:
                self.assert_fault(text[:length], 0 if length < first else 1, 1)


class NumbersThatDoNotRise(PatchCase):
    def test_a_number_that_is_the_one_before(self):
        self.assert_fault(line(1) + line(1), 1, 2)
        self.assert_fault(line(128) + line(128), 1, 2)

    def test_a_number_below_the_one_before(self):
        self.assert_fault(line(2) + line(1), 1, 2)
        self.assert_fault(line(10) + line(9), 1, 2)
        self.assert_fault(line(1) + line(5) + line(3), 2, 2)

    def test_the_line_before_counts_not_the_first_one(self):
        self.assert_fault(line(1) + line(9) + line(2), 2, 2)


class FirstFaults(PatchCase):
    def test_the_first_wrong_line_is_told(self):
        self.assert_fault(b"x\n" + line(2) + line(1), 0, 1)
        self.assert_fault(line(2) + line(1) + b"x\n", 1, 2)
        self.assert_fault(line(1) + b"x\n" + b"y\n", 1, 1)
        self.assert_fault(line(2) + line(2) + line(1), 1, 2)
        self.assert_fault(line(2) + line(1) + line(3)[:-1], 1, 2)

    def test_of_one_line_no_such_line_comes_first(self):
        self.assert_fault(line(5) + line(5, phase=4), 1, 1)
        self.assert_fault(line(5) + line(4, curve="curve"), 1, 1)
        self.assert_fault(line(5) + line(0), 1, 1)
        self.assert_fault(line(5) + line(4)[:-1], 1, 1)

    def test_a_fault_behind_a_full_patch(self):
        self.assert_fault(full_patch() + line(129), 128, 1)
        self.assert_fault(full_patch() + line(128), 128, 2)
        self.assert_fault(full_patch() + b"\n", 128, 1)


class LongTexts(PatchCase):
    def test_8192_bytes_are_read(self):
        self.assert_fault(b"1" * 8192, 0, 1)
        self.assert_fault(b"\n" * 8192, 0, 1)
        self.assert_fault(b" " * 8192, 0, 1)
        self.assert_fault((full_patch() + line(128) * 400)[:8192], 128, 2)
        self.assert_fault(full_patch() + b"x" * (8192 - len(full_patch())), 128, 1)

    def test_8193_bytes_are_too_many(self):
        for text in (b"1" * 8193, b"\n" * 8193, full_patch() + b"x" * (8193 - len(full_patch()))):
            self.assertEqual(ask_last(patch(text)), [-2])

    def test_the_longest_text_is_too_long(self):
        self.assertEqual(ask_last(patch(b"\n" * 29900)), [-2])

    def test_too_long_is_looked_at_ahead_of_faults(self):
        self.assertEqual(ask_last(patch(b"\n" + line(2) + line(1) + b"x" * 9000)), [-2])


class WhatIsHeld(PatchCase):
    refused = (b"x\n", GOOD[:-1], line(1) + line(1), line(1) + b"\n", b"1" * 8193, b"\n")

    def test_a_refusal_keeps_the_patch_held_before(self):
        held = [patch(GOOD), set_level(3, 60), set_level(1, 5)]
        for text in self.refused:
            self.assertEqual(state_after(*held, patch(text)), state_after(*held))

    def test_a_refusal_on_a_new_desk_holds_nothing(self):
        for text in self.refused:
            self.assertEqual(ask(patch(text), print_patch(), out(1))[1:], [[0], [-4]])

    def test_a_patch_takes_the_place_of_the_one_before(self):
        told = ask(patch(line(1) + line(2)), patch(GOOD), print_patch(), out(1), out(2), out(7))
        self.assertEqual(told, [[2], [1], [len(GOOD), *GOOD], [-4], [-4], [0]])

    def test_a_text_of_no_lines_takes_the_place_too(self):
        self.assertEqual(ask(patch(GOOD), patch(b""), print_patch(), out(7)), [[1], [0], [0], [-4]])

    def test_levels_stay_when_a_patch_is_held(self):
        told = ask(set_level(3, 100), set_level(64, 7), patch(GOOD), level(3), level(64), out(7), patch(b""), level(3))
        self.assertEqual(told, [[0], [0], [1], [100], [7], [204], [0], [100]])


if __name__ == "__main__":
    unittest.main()
