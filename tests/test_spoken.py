"""backwardrow.spoken: rows and eaters of sayings, held tick by tick against what the sayings mean by own reckoning."""

import itertools
import random
import unittest

from backwardrow.eaters import Eater, beginnings, takes
from backwardrow.fed import Fed
from backwardrow.folds import TwoWays
from backwardrow.joined import Both, Either, Not, Renamed
from backwardrow.rows import Row
from backwardrow.runs import due_tick, said, seat, told, told_words, worth_at
from backwardrow.slants import OneWay
from backwardrow.spoken import eater_of, row_of
from backwardrow.unlike import Same, unlike
from helpers import HUGE, NO_INTEGERS, ODD, error_of
from made import only_small, strip_of, words_over
from made_sayings import KINDS, saying_by_chance, single_by_chance, so_by_hand, so_often

# At the bounds of their numbers and letters.
EDGES = (
    ("begins", 0), ("begins", 5), ("ends", 0), ("ends", 5), ("has", (0,)), ("has", (0, 0, 1, 0, 0, 1)), ("has", (1, 0, 1, 0, 1, 1)), ("has", (5,) * 6),
    ("length", 2, 0), ("length", 2, 1), ("length", 6, 5), ("length", 6, 0), ("many", 0, 1), ("many", 1, 0), ("many", 5, 0), ("nested", 0, 1), ("nested", 1, 0),
    ("nested", 0, 5), ("then", (0, 1)), ("then", (1, 0)), ("then", (0, 1, 0)), ("then", (2, 1, 0)), ("then", (0, 1, 0, 1)), ("then", (0, 1, 2, 3)),
    ("then", (5, 4, 5, 0)), ("mirror",),
)


def named(saying):
    """How many letters there must be for a saying."""
    text = repr(saying)
    return max([letter + 1 for letter in range(6) if any(str(letter) == sign for sign in text)] or [1])


class Says(unittest.TestCase):
    def check(self, saying, row, word, bounded):
        """Hold what cell 0 says at each tick against what the saying means of the letters so far."""
        for tick, line in enumerate(strip_of(row, word, len(word) - 1)):
            self.assertIs(row.says(line[0]), so_by_hand(saying, word[:tick + 1]), (saying, word, tick))
            for worth in line:
                self.assertTrue(only_small(worth), worth)
                self.assertTrue(not bounded or len(repr(worth)) <= 80, worth)
        self.assertIs(told(row, word), so_by_hand(saying, word))
        self.assertIs(said(row, word, len(word) // 2), so_by_hand(saying, word[:len(word) // 2 + 1]))

    def test_edges(self):
        chance = random.Random(1)
        for saying in EDGES:
            for letters in {max(named(saying), 2), 6}:
                row = row_of(saying, letters)
                for word in words_over(min(letters, 3), 5):
                    self.check(saying, row, list(word), True)
                for many in (6, 7, 12, 25, 40):
                    word = [chance.randrange(letters) for _ in range(many)]
                    for near in (word, so_often(saying, word, chance)):
                        self.check(saying, row, near, True)

    def test_each_kind_by_chance(self):
        chance = random.Random(2)
        for kind in KINDS:
            for letters in range(1 if kind in ("begins", "ends", "has", "length", "mirror") else 2, 7):
                for _ in range(3):
                    saying = single_by_chance(chance, letters, kind)
                    row = row_of(saying, letters)
                    for word in words_over(letters, 3 if letters > 3 else 4):
                        self.check(saying, row, list(word), True)
                    for many in (9, 22, 40):
                        word = [chance.randrange(letters) for _ in range(many)]
                        for near in (word, so_often(saying, word, chance)):
                            self.check(saying, row, near, True)

    def test_not_both_either_to_the_depth_of_6(self):
        chance = random.Random(3)
        for turn in range(60):
            letters = 1 + turn % 6
            saying = saying_by_chance(chance, letters)
            row = row_of(saying, letters)
            for word in words_over(letters, 2 if letters > 3 else 3):
                self.check(saying, row, list(word), False)
            for many in (8, 17, 40):
                word = [chance.randrange(letters) for _ in range(many)]
                for near in (word, so_often(saying, word, chance)):
                    self.check(saying, row, near, False)

    def test_sayings_at_their_greatest(self):
        chance = random.Random(4)
        deep = ("not", ("both", ("many", 0, 1), ("not", ("either", ("nested", 0, 1), ("not", ("then", (0, 1, 0)))))))
        wide = ("both", ("either", ("both", ("many", 0, 1), ("ends", 1)), ("not", ("mirror",))),
                ("either", ("both", ("has", (0, 1, 1)), ("length", 2, 0)), ("both", ("then", (0, 1)), ("not", ("nested", 1, 0)))))
        for saying in (deep, wide):
            row = row_of(saying, 2)
            for word in words_over(2, 6):
                self.check(saying, row, list(word), False)
            for many in (20, 40):
                self.check(saying, row, [chance.randrange(2) for _ in range(many)], False)

    def test_long_words(self):
        chance = random.Random(5)
        for saying, words in (
            (("many", 0, 1), ([0] * 50 + [1] * 50, [1] * 55 + [0] * 55, [0, 1] * 50, [0] * 40 + [2] * 20 + [1] * 45, [1, 0, 0] * 34, [0] * 60 + [1] * 100)),
            (("nested", 0, 1), ([0] * 50 + [1] * 50, [0, 1] * 50, [0] * 30 + [1] * 29 + [2] * 9 + [0] * 30 + [1] * 32, [0] * 50 + [1] * 51, [0, 0, 1, 1] * 25)),
            (("then", (0, 1)), ([0] * 55 + [1] * 55, [0] * 50 + [1] * 49 + [2], [0] * 50 + [1] * 52)),
            (("then", (0, 1, 2)), ([0] * 40 + [1] * 40 + [2] * 40, [0] * 33 + [1] * 34 + [2] * 33, [0] * 34 + [1] * 34 + [2] * 33)),
            (("then", (0, 1, 0, 2)), ([0] * 30 + [1] * 30 + [0] * 30 + [2] * 30, [0] * 30 + [1] * 30 + [0] * 30 + [2] * 31, [0] * 25 + [1] * 25 + [0] * 24 + [2] * 25)),
        ):
            row = row_of(saying, 3)
            for word in (*words, [chance.randrange(3) for _ in range(100)]):
                self.assertGreaterEqual(len(word), 98)
                self.check(saying, row, word, True)

    def test_told_words(self):
        chance = random.Random(6)
        for _ in range(30):
            letters = chance.randint(1, 3)
            saying = saying_by_chance(chance, letters, 3)
            for many in (1, 3, 5):
                wanted = tuple(word for word in itertools.product(range(letters), repeat=many) if so_by_hand(saying, word))
                self.assertEqual(told_words(row_of(saying, letters), many), wanted)

    def test_at_most_so_many_worths(self):
        row = row_of(("then", (0, 1, 0)), 2)
        found = set()
        for half in range(1, 15):
            for word in ([0] * half + [1] * half + [0] * half, [0] * half + [1] * half, [0, 1] * half):
                found |= {worth for line in strip_of(row, word, len(word)) for worth in line}
        before = len(found)
        for word in ([0] * 40 + [1] * 40 + [0] * 40, [0] * 60 + [1] * 60):
            found |= {worth for line in strip_of(row, word, len(word)) for worth in line}
        self.assertEqual(len(found), before)


class Rows(unittest.TestCase):
    def test_rows_made_of_them(self):
        chance = random.Random(7)
        for turn in range(24):
            letters = 1 + turn % 3
            saying = saying_by_chance(chance, letters, 3)
            row = row_of(saying, letters)
            names = [chance.randrange(letters) for _ in range(3)]
            for word in words_over(letters, 4):
                wanted = so_by_hand(saying, word)
                for made in (OneWay(row), TwoWays(OneWay(row)), OneWay(TwoWays(OneWay(row))), Both(row, row), Not(Not(row))):
                    self.assertIs(told(made, word), wanted)
                self.assertIs(told(Not(row), word), not wanted)
            for word in words_over(3, 3):
                self.assertIs(told(Renamed(row, names), word), so_by_hand(saying, [names[letter] for letter in word]))

    def test_held_against_one_another(self):
        for one, other in (
            (("both", ("begins", 0), ("ends", 1)), ("not", ("either", ("not", ("begins", 0)), ("not", ("ends", 1))))),
            (("not", ("mirror",)), ("not", ("not", ("not", ("mirror",))))),
            (("then", (0, 1)), ("both", ("many", 0, 1), ("both", ("not", ("has", (1, 0))), ("begins", 0)))),
        ):
            self.assertEqual(unlike(row_of(one, 2), OneWay(row_of(other, 2)), 6), Same(6))
            self.assertEqual(Both(row_of(one, 2), row_of(other, 2)).letters, 2)
        self.assertEqual(unlike(row_of(("many", 0, 1), 2), row_of(("nested", 0, 1), 2), 4).letters, (1, 0))
        self.assertEqual(unlike(row_of(("nested", 0, 1), 2), row_of(("then", (0, 1)), 2), 6).letters, (0, 1, 0, 1))

    def test_attributes(self):
        chance = random.Random(8)
        for letters in range(1, 7):
            for _ in range(10):
                row = row_of(saying=saying_by_chance(chance, letters), letters=letters)
                self.assertIsInstance(row, Row)
                self.assertEqual((row.letters, row.ways, seat(row, 5), due_tick(row, 5)), (letters, 2, 0, 4))

    def test_equal_when_made_alike(self):
        chance = random.Random(9)
        for _ in range(60):
            letters = chance.randint(1, 6)
            saying = saying_by_chance(chance, letters, 4)
            again = eval(repr(saying).replace("[", "(").replace("]", ",)"))
            self.assertIs(row_of(saying, letters) == row_of(again, letters), True)
            self.assertIs(row_of(saying, letters) != row_of(again, letters), False)
            if letters < 6:
                self.assertIs(row_of(saying, letters) == row_of(saying, letters + 1), False)
            self.assertIs(row_of(saying, letters) == saying, False)
        self.assertIs(row_of(("ends", 0), 2) == row_of(("ends", 1), 2), False)

    def test_asked_again_in_any_order(self):
        chance = random.Random(10)
        for saying in (("then", (0, 1, 0)), ("both", ("many", 0, 1), ("not", ("mirror",)))):
            one, other = row_of(saying, 3), row_of(saying, 3)
            words = [[chance.randrange(3) for _ in range(many)] for many in (1, 2, 5, 9, 14)]
            asked = [(word, cell, tick) for word in words for cell in range(len(word)) for tick in (0, 1, len(word) - 1, 20)]
            found = [worth_at(one, *told_so) for told_so in asked]
            order = list(range(len(asked)))
            chance.shuffle(order)
            for at in order:
                self.assertEqual(worth_at(other, *asked[at]), found[at])
                self.assertEqual(worth_at(one, *asked[at]), found[at])

    def test_any_worths_beside_one_another(self):
        chance = random.Random(11)
        for saying in (*EDGES, ("not", ("mirror",)), ("either", ("then", (0, 1)), ("nested", 1, 0))):
            row = row_of(saying, 6)
            found = [worth for line in strip_of(row, [chance.randrange(6) for _ in range(10)] + [0, 0, 1, 1], 25) for worth in line]
            for _ in range(300):
                left, own, right = (chance.choice(found) for _ in range(3))
                left = None if chance.random() < 0.2 else left
                right = None if chance.random() < 0.2 else right
                worth = row.next(left, own, right)
                self.assertTrue(only_small(worth), worth)
                self.assertIn(row.says(worth), (True, False))
                self.assertEqual(row.next(left, own, right), worth)
                found.append(worth)


class Eaters(unittest.TestCase):
    def test_take_just_the_words_that_are_so(self):
        chance = random.Random(12)
        sayings = [(saying, max(named(saying), 2)) for saying in EDGES] + [(saying, 6) for saying in EDGES]
        sayings += [(single_by_chance(chance, letters), letters) for letters in range(1, 7) for _ in range(25)]
        for saying, letters in sayings:
            if saying[0] == "mirror":
                continue
            eater = eater_of(saying=saying, letters=letters)
            self.assertIsInstance(eater, Eater)
            self.assertEqual(eater.letters, letters)
            for word in words_over(letters, 3 if letters > 3 else 5):
                self.assertIs(takes(eater, word), so_by_hand(saying, word), (saying, word))
            for many in (12, 40, 130):
                word = [chance.randrange(letters) for _ in range(many)]
                for near in (word, so_often(saying, word, chance)[:200]):
                    wanted = tuple(so_by_hand(saying, near[:at + 1]) for at in range(len(near)))
                    self.assertEqual(beginnings(eater, near), wanted)
            self.assertIs(Fed(eater) == row_of(saying, letters), True)
            self.assertIs(eater == eater_of(list(saying), letters), True)


class Refused(unittest.TestCase):
    def test_no_sayings(self):
        for value in (None, True, 0, "mirror", (), [], ("mirrors",), ("many", 1, 1), ("begins", 6), ("has", [True]), ("not",), {}, {"mirror": 1}, ODD, HUGE):
            for call in (row_of, eater_of):
                for letters in (2, 0, None, "x"):
                    self.assertEqual(error_of(call, value, letters), ("BadSaying", "saying"), value)

    def test_no_letters(self):
        for value in (*NO_INTEGERS, 0, 7, -1, HUGE, -HUGE):
            for call in (row_of, eater_of):
                for saying in (("mirror",), ("ends", 5), ("not", ("ends", 5))):
                    self.assertEqual(error_of(call, saying, value), ("BadNumber", "letters"), value)

    def test_too_few_letters(self):
        for saying in (("begins", 2), ("ends", 2), ("has", [0, 2, 1]), ("many", 0, 2), ("nested", 2, 0), ("then", (2, 0)), ("then", (0, 1, 2)),
                       ("not", ("ends", 2)), ("both", ("ends", 0), ("has", (2,))), ["either", ["many", 2, 1], ["mirror"]], ("not", ("not", ("ends", 2)))):
            for letters in range(1, 7):
                if letters < 3:
                    self.assertEqual(error_of(row_of, saying, letters), ("Misfit", "letters"))
                    self.assertEqual(error_of(eater_of, saying, letters), ("Misfit", "letters"))
                else:
                    self.assertEqual(row_of(saying, letters).letters, letters)
        for saying in (("mirror",), ("length", 6, 5)):
            self.assertEqual(row_of(saying, 1).letters, 1)

    def test_sayings_without_an_eater(self):
        for saying in (("mirror",), ["mirror"], ("not", ("ends", 1)), ("both", ("ends", 1), ("ends", 0)), ["either", ["ends", 1], ["mirror"]]):
            self.assertEqual(error_of(eater_of, saying, 2), ("Misfit", "saying"))
        self.assertEqual(error_of(eater_of, ("not", ("ends", 2)), 2), ("Misfit", "letters"))


if __name__ == "__main__":
    unittest.main()
