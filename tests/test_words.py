"""backwardrow.words: all words, the next one, texts and back."""

import itertools
import unittest

from backwardrow.words import all_words, mirrored, next_word, word_read, word_text
from helpers import HUGE, NO_INTEGERS, NO_LISTS, NO_STRINGS, error_of

BAD_LETTERS = (0, -1, 7, HUGE, -HUGE, *NO_INTEGERS)
BAD_MANY = (0, -1, 13, HUGE, -HUGE, *NO_INTEGERS)
BAD_WORDS = (
    *NO_LISTS, [], (), {}, {0: 0}, [2], [0, 2], [0, -1], [0, True], [0, None], [0, "1"], [[0]], [0] * 201, (0,) * 201,
    [0, HUGE], [0, 1.0],
)


class AllWords(unittest.TestCase):
    def test_counted_by_hand(self):
        self.assertEqual(all_words(3, 1), ((0,), (1,), (2,)))
        self.assertEqual(all_words(2, 3), (
            (0, 0, 0), (0, 0, 1), (0, 1, 0), (0, 1, 1), (1, 0, 0), (1, 0, 1), (1, 1, 0), (1, 1, 1)))
        self.assertEqual(all_words(1, 12), ((0,) * 12,))

    def test_all_that_are_let(self):
        for letters in range(1, 7):
            for many in range(1, 13):
                if letters ** many > 4096:
                    self.assertEqual(error_of(all_words, letters, many), ("TooMany", "words", 4096))
                    continue
                words = all_words(many=many, letters=letters)
                self.assertIsInstance(words, tuple)
                self.assertEqual(words, tuple(itertools.product(range(letters), repeat=many)))

    def test_the_most_words(self):
        self.assertEqual(len(all_words(2, 12)), 4096)
        self.assertEqual(len(all_words(4, 6)), 4096)
        self.assertEqual(error_of(all_words, 3, 8), ("TooMany", "words", 4096))
        self.assertEqual(error_of(all_words, 6, 5), ("TooMany", "words", 4096))

    def test_wrong_ones(self):
        for letters in BAD_LETTERS:
            for many in (1, 12, 13, None):
                self.assertEqual(error_of(all_words, letters, many), ("BadNumber", "letters"))
        for many in BAD_MANY:
            for letters in (1, 2, 6):
                self.assertEqual(error_of(all_words, letters, many), ("BadNumber", "many"))


class NextWord(unittest.TestCase):
    def test_from_the_first_one_on(self):
        for letters, longest in ((1, 12), (2, 6), (3, 4), (4, 3), (6, 3)):
            word = (0,)
            for many in range(1, longest + 1):
                for wanted in itertools.product(range(letters), repeat=many):
                    self.assertEqual(word, wanted)
                    following = next_word(letters, word)
                    self.assertEqual(next_word(word=list(word), letters=letters), following)
                    self.assertIsInstance(following, tuple)
                    word = following

    def test_long_ones(self):
        for letters in range(1, 7):
            last = letters - 1
            self.assertEqual(next_word(letters, [last] * 199), (0,) * 200)
            self.assertEqual(error_of(next_word, letters, [last] * 200), ("TooMany", "letters", 200))
            if letters > 1:
                self.assertEqual(next_word(letters, [0] * 200), (0,) * 199 + (1,))
                self.assertEqual(next_word(letters, [0] + [last] * 199), (1,) + (0,) * 199)
                self.assertEqual(next_word(letters, [last] * 199 + [0]), (last,) * 199 + (1,))

    def test_wrong_ones(self):
        for word in BAD_WORDS:
            self.assertEqual(error_of(next_word, 2, word), ("BadWord", "word"), word)
        self.assertEqual(error_of(next_word, 1, [1]), ("BadWord", "word"))
        self.assertEqual(error_of(next_word, 6, [6]), ("BadWord", "word"))
        self.assertEqual(next_word(6, [5]), (0, 0))
        for letters in BAD_LETTERS:
            for word in ([0], [], None, [0] * 200):
                self.assertEqual(error_of(next_word, letters, word), ("BadNumber", "letters"))

    def test_what_is_passed_stays(self):
        word = [0, 1, 1]
        self.assertEqual(next_word(2, word), (1, 0, 0))
        self.assertEqual(word, [0, 1, 1])


class Mirrored(unittest.TestCase):
    def test_some(self):
        for word in ([0], [5, 0], [0, 1, 2, 3, 4, 5], [0, 0, 1], [3] * 200, [0] * 199 + [1]):
            wanted = tuple(word[len(word) - 1 - at] for at in range(len(word)))
            self.assertEqual(mirrored(word), wanted)
            self.assertEqual(mirrored(word=tuple(word)), wanted)

    def test_wrong_ones(self):
        for word in BAD_WORDS:
            if word in ([2], [0, 2]):
                continue
            self.assertEqual(error_of(mirrored, word), ("BadWord", "word"), word)
            self.assertEqual(error_of(word_text, word), ("BadWord", "word"), word)
        self.assertEqual(error_of(mirrored, [6]), ("BadWord", "word"))
        self.assertEqual(error_of(word_text, [0, 6]), ("BadWord", "word"))


class Texts(unittest.TestCase):
    def test_there_and_back(self):
        for word in ((0,), (5,), (2, 0, 1), (0, 1, 2, 3, 4, 5), (4,) * 200, *all_words(3, 3)):
            text = " ".join("012345"[letter] for letter in word)
            self.assertEqual(word_text(word), text)
            self.assertEqual(word_text(word=list(word)), text)
            self.assertEqual(word_read(text=text), word)
            self.assertIsInstance(word_read(text), tuple)

    def test_one_item_spoilt(self):
        for many in (1, 2, 7, 200):
            for at in {0, many // 2, many - 1}:
                for item in ("", "6", "-1", "-0", "00", "01", "+1", "x", "1x", "1.0", "\t1", "1\r", "10", "9" * 61, "\u00b2", "\u0661", "1" * 5000):
                    items = ["1"] * many
                    items[at] = item
                    self.assertEqual(error_of(word_read, " ".join(items)), ("BadText", 0, at), item)

    def test_the_first_one_is_told(self):
        self.assertEqual(error_of(word_read, "0 6 x"), ("BadText", 0, 1))
        self.assertEqual(error_of(word_read, "0 6\n"), ("BadText", 0, 1))
        self.assertEqual(error_of(word_read, "0 6 " + "0 " * 300), ("BadText", 0, 1))

    def test_empty_items(self):
        for text, item in (("", 0), (" ", 0), (" 0", 0), ("0 ", 1), ("0  1", 1), ("0 1  ", 2)):
            self.assertEqual(error_of(word_read, text), ("BadText", 0, item), text)

    def test_a_line_more(self):
        for text in ("0\n", "0 1\n0", "0\n\n", "5\n 0"):
            self.assertEqual(error_of(word_read, text), ("BadText", 1, 0), text)
        self.assertEqual(error_of(word_read, "\n0"), ("BadText", 0, 0))

    def test_too_many_letters(self):
        self.assertEqual(error_of(word_read, " ".join(["0"] * 201)), ("BadText", 0, 200))
        self.assertEqual(error_of(word_read, " ".join(["0"] * 300)), ("BadText", 0, 200))
        self.assertEqual(error_of(word_read, " ".join(["0"] * 200 + ["x"])), ("BadText", 0, 200))
        self.assertEqual(error_of(word_read, " ".join(["0"] * 200) + " "), ("BadText", 0, 200))
        self.assertEqual(error_of(word_read, " ".join(["0"] * 201) + "\n0"), ("BadText", 0, 200))
        self.assertEqual(error_of(word_read, " ".join(["0"] * 200) + "\n0"), ("BadText", 1, 0))

    def test_no_strings(self):
        for value in NO_STRINGS:
            self.assertEqual(error_of(word_read, value), ("BadText", 0, 0))


if __name__ == "__main__":
    unittest.main()
