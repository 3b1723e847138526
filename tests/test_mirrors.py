"""backwardrow.mirrors: what cell 0 says at each tick of words of all kinds; how great worths are; equality."""

import itertools
import random
import unittest

from backwardrow.eaters import Eater
from backwardrow.fed import Fed
from backwardrow.folds import TwoWays
from backwardrow.joined import Both, Not, Renamed
from backwardrow.mirrors import Mirror
from backwardrow.rows import Row
from backwardrow.runs import due_tick, said, seat, told, told_words, worth_at
from backwardrow.slants import OneWay
from helpers import HUGE, NO_INTEGERS, error_of
from made import evens_parts, only_small, strip_of, words_over


def is_mirrored(word):
    return list(word) == list(word)[::-1]


class Says(unittest.TestCase):
    def check(self, row, word):
        lines = strip_of(row, word, len(word) - 1)
        for tick, line in enumerate(lines):
            self.assertIs(row.says(line[0]), is_mirrored(word[:tick + 1]), (word, tick))
            for worth in line:
                self.assertLessEqual(len(repr(worth)), 80)
                self.assertTrue(only_small(worth), worth)
        self.assertIs(told(row, word), is_mirrored(word))

    def test_all_words(self):
        for letters, longest in ((1, 12), (2, 9), (3, 6), (6, 3)):
            row = Mirror(letters)
            for word in words_over(letters, longest):
                self.check(row, list(word))

    def test_said_at_each_tick(self):
        for letters, longest in ((2, 6), (3, 4)):
            row = Mirror(letters)
            for word in words_over(letters, longest):
                for tick in range(len(word)):
                    self.assertIs(said(row, word, tick), is_mirrored(word[:tick + 1]))

    def test_told_words(self):
        for letters, many in ((1, 9), (2, 8), (3, 5), (6, 3)):
            wanted = tuple(word for word in itertools.product(range(letters), repeat=many) if is_mirrored(word))
            self.assertEqual(told_words(Mirror(letters), many), wanted)

    def test_long_mirrored_words(self):
        chance = random.Random(1)
        for letters, half in ((2, 9), (2, 30), (3, 49), (6, 49), (2, 50)):
            row = Mirror(letters)
            start = [chance.randrange(letters) for _ in range(half)]
            for word in (start + start[::-1], start[:-1] + start[::-1], [letters - 1] * (2 * half), [0, letters - 1] * half):
                self.check(row, word)

    def test_one_letter_changed(self):
        chance = random.Random(2)
        for letters, half in ((2, 12), (3, 10), (5, 20)):
            row = Mirror(letters)
            start = [chance.randrange(letters) for _ in range(half)]
            for word in (start + start[::-1], start[:-1] + start[::-1]):
                for at in range(len(word)):
                    spoilt = list(word)
                    spoilt[at] = (spoilt[at] + 1) % letters
                    self.assertIs(told(row, spoilt), is_mirrored(spoilt))
                    self.assertIs(is_mirrored(spoilt), 2 * at + 1 == len(word))

    def test_long_words_with_mirrored_beginnings(self):
        for word in ([0] * 100, [0] * 50 + [1] * 50, [0, 1] * 50, ([0] * 9 + [1]) * 10, [1] + [0] * 98 + [1], [0, 1, 1, 0, 0, 1, 1] * 14):
            self.check(Mirror(2), word)

    def test_rows_made_of_them(self):
        row = Mirror(2)
        for word in words_over(2, 6):
            wanted = is_mirrored(word)
            for made in (OneWay(row), TwoWays(OneWay(row)), Not(Not(row)), Both(row, row), Renamed(row, [1, 0])):
                self.assertIs(told(made, word), wanted)
            self.assertIs(told(Not(row), word), not wanted)
        evens = Fed(Eater(*evens_parts()))
        self.assertEqual(told_words(Both(row, Not(evens)), 2), ((0, 0), (1, 1)))

    def test_asked_again_in_any_order(self):
        chance = random.Random(7)
        one, other = Mirror(3), Mirror(3)
        words = [[chance.randrange(3) for _ in range(many)] for many in (1, 2, 5, 9)] + [[0, 1, 2, 1, 0]]
        asked = [(word, cell, tick) for word in words for cell in range(len(word)) for tick in (0, 1, 2, len(word) - 1, 15)]
        found = [worth_at(one, *told_so) for told_so in asked]
        order = list(range(len(asked)))
        chance.shuffle(order)
        for at in order:
            self.assertEqual(worth_at(other, *asked[at]), found[at])
            self.assertEqual(worth_at(one, *asked[at]), found[at])

    def test_any_worths_beside_one_another(self):
        chance = random.Random(3)
        for letters in (1, 2, 6):
            row = Mirror(letters)
            found = [worth for line in strip_of(row, [chance.randrange(letters) for _ in range(12)], 30) for worth in line]
            for _ in range(2000):
                left, own, right = (chance.choice(found) for _ in range(3))
                left = None if chance.random() < 0.2 else left
                right = None if chance.random() < 0.2 else right
                worth = row.next(left, own, right)
                self.assertTrue(only_small(worth) and len(repr(worth)) <= 80, worth)
                self.assertIn(row.says(worth), (True, False))
                self.assertEqual(row.next(left, own, right), worth)
                found.append(worth)


class Made(unittest.TestCase):
    def test_attributes(self):
        for letters in range(1, 7):
            row = Mirror(letters)
            self.assertEqual((row.letters, row.ways), (letters, 2))
            self.assertIsInstance(row, Row)
            self.assertEqual((seat(row, 7), due_tick(row, 7)), (0, 6))
            for letter in range(letters):
                self.assertIs(told(row, [letter]), True)
                self.assertIs(row.says(row.begin(letter=letter)), True)

    def test_refused(self):
        for value in (0, 7, -1, HUGE, -HUGE, *NO_INTEGERS):
            self.assertEqual(error_of(Mirror, value), ("BadNumber", "letters"), value)
            self.assertEqual(error_of(Mirror, letters=value), ("BadNumber", "letters"), value)
        self.assertEqual(error_of(told, Mirror(2), [0, 2]), ("BadWord", "word"))

    def test_equal(self):
        for one, other in itertools.product(range(1, 7), repeat=2):
            self.assertIs(Mirror(one) == Mirror(letters=other), one == other)
            self.assertIs(Mirror(one) != Mirror(other), one != other)
        for value in (2, None, "x", (2,), [], object(), Not(Not(Mirror(2))), OneWay(Mirror(2)), Fed(Eater(*evens_parts()))):
            self.assertIs(Mirror(2) == value, False)
            self.assertIs(value == Mirror(2), False)


if __name__ == "__main__":
    unittest.main()
