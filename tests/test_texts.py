"""backwardrow.texts: how an integer is written, whatever its bounds, and how lines and items are told."""

import unittest

from backwardrow.errors import BadText
from backwardrow.texts import integer_told, text_lines, want_number
from helpers import NO_STRINGS, error_of


class Integers(unittest.TestCase):
    def test_right_ones(self):
        for number in (0, 1, 9, 10, 100, 12345, 10 ** 59, 10 ** 60 - 1):
            self.assertEqual(integer_told(str(number)), number)
            if number:
                self.assertEqual(integer_told("-" + str(number)), -number)

    def test_no_integers(self):
        for item in (
            "", "-", "--1", "-0", "00", "01", "-01", "+1", "+", " 1", "1 ", "1_0", "1.0", "1e3", "0x1", "x", "1-", "1" * 61,
            "-" + "1" * 61, "1" * 5000, "\u00b2", "\u0661", "\uff11", "\t1", "1\r",
        ):
            self.assertIsNone(integer_told(item), item)

    def test_bounds(self):
        for item, wanted in (("-3", None), ("-2", -2), ("0", 0), ("4", 4), ("5", None), ("-0", None)):
            got = error_of(want_number, ["x", item], 3, 1, -2, 4)
            self.assertEqual(got, ("none", wanted) if wanted is not None else ("BadText", 3, 1))
        self.assertEqual(error_of(want_number, ["1"], 3, 1, -2, 4), ("BadText", 3, 1))


class Lines(unittest.TestCase):
    def test_blanks_and_line_feeds_alone_part_items_and_lines(self):
        for text, wanted in (
            ("", [[""]]), (" ", [["", ""]]), ("\n", [[""], [""]]), ("a b\nc", [["a", "b"], ["c"]]), ("a\tb\rc", [["a\tb\rc"]]),
            ("a\u00a0b\u2028c\x0bd\x1ce", [["a\u00a0b\u2028c\x0bd\x1ce"]]),
        ):
            self.assertEqual(text_lines(text), wanted)

    def test_no_strings(self):
        for value in NO_STRINGS:
            with self.assertRaises(BadText):
                text_lines(value)


if __name__ == "__main__":
    unittest.main()
