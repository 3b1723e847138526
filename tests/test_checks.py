"""backwardrow.checks: for any values."""

import unittest

from backwardrow.checks import is_integer, is_letter, is_within, is_word
from helpers import HUGE, NO_INTEGERS, NO_LISTS

INTEGERS = (0, 1, -1, 2, -2, 5, 6, 255, -256, 10 ** 30, -10 ** 30, HUGE, -HUGE)


class Checks(unittest.TestCase):
    def test_integers(self):
        for value in INTEGERS:
            self.assertIs(is_integer(value), True)
        for value in NO_INTEGERS:
            self.assertIs(is_integer(value), False, value)

    def test_within(self):
        bounds = (None, -HUGE, -2, 0, 1, 4, 10 ** 30, HUGE)
        for least in bounds:
            for most in bounds:
                for value in INTEGERS:
                    wanted = True
                    if least is not None and value < least:
                        wanted = False
                    if most is not None and value > most:
                        wanted = False
                    self.assertIs(is_within(value, least, most), wanted)
                for value in NO_INTEGERS:
                    self.assertIs(is_within(value, least, most), False, value)

    def test_within_by_name(self):
        self.assertIs(is_within(most=4, least=2, value=4), True)
        self.assertIs(is_within(value=5, least=2, most=4), False)
        self.assertIs(is_within(value=1, least=2, most=4), False)

    def test_letters(self):
        for letters in range(1, 7):
            for value in INTEGERS:
                self.assertIs(is_letter(value, letters), value in range(letters))
            for value in NO_INTEGERS:
                self.assertIs(is_letter(value, letters), False, value)
        self.assertIs(is_letter(letters=3, value=2), True)

    def test_words_of_many_lengths(self):
        for letters in range(1, 7):
            for many, wanted in ((0, False), (1, True), (2, True), (199, True), (200, True), (201, False), (900, False)):
                for letter in range(letters):
                    self.assertIs(is_word([letter] * many, letters), wanted)
                    self.assertIs(is_word((letter,) * many, letters), wanted)

    def test_words_with_one_that_is_no_letter(self):
        for letters in range(1, 7):
            for many in (1, 2, 200):
                for at in {0, many // 2, many - 1}:
                    for value in (letters, -1, HUGE, *NO_INTEGERS):
                        word = [0] * many
                        word[at] = value
                        self.assertIs(is_word(word, letters), False, value)
                        self.assertIs(is_word(tuple(word), letters), False, value)

    def test_no_words(self):
        for value in (*NO_LISTS, {}, {0: 0}, {0}, range(2), 5):
            self.assertIs(is_word(value, 3), False, value)
        self.assertIs(is_word([[0]], 3), False)
        self.assertIs(is_word(letters=2, value=[1]), True)


if __name__ == "__main__":
    unittest.main()
