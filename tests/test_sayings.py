"""backwardrow.sayings: which values are sayings, what they mean of words, by own reckoning, and what is refused."""

import itertools
import random
import unittest

from backwardrow.sayings import is_saying, letters_in, means, words_so
from helpers import HUGE, NO_INTEGERS, NO_LISTS, ODD, error_of
from made import words_over
from made_sayings import KINDS, saying_by_chance, single_by_chance, so_by_hand, so_often, within_by_hand

RIGHT = (
    ("begins", 0), ("begins", 5), ("ends", 0), ("ends", 5), ("has", (0,)), ("has", (5,) * 6), ("has", [0, 5, 3]), ("length", 2, 0),
    ("length", 2, 1), ("length", 6, 5), ("many", 0, 5), ("many", 5, 0), ("nested", 1, 0), ("nested", 4, 5), ("then", (0, 1)),
    ("then", (5, 0, 5, 0)), ("then", [2, 3, 4]), ("mirror",), ("not", ("mirror",)), ("both", ("mirror",), ["ends", 1]),
    ("either", ["not", ("begins", 2)], ("length", 3, 2)), ["has", [1, 2]], ["mirror"], ["not", ["not", ["mirror"]]],
)
SPOILT = (
    -1, 6, 7, HUGE, -HUGE, True, False, None, 1.0, "0", "", "mirror", b"1", (), [], (0,), [1, 2], (1, 1), ("mirror",), ("not",), {}, {0: 1}, ODD)


def nots(many):
    """A saying of this depth, with so many within."""
    saying = ("mirror",)
    for _ in range(many - 1):
        saying = ("not", saying)
    return saying


def tree(many):
    """A saying with so many within, as flat as it may be."""
    if many == 1:
        return ("ends", 1)
    if many == 2:
        return ("not", ("begins", 0))
    return ("both", tree((many - 1) // 2), tree(many - 1 - (many - 1) // 2))


class IsSaying(unittest.TestCase):
    def test_right(self):
        for saying in RIGHT:
            self.assertIs(is_saying(saying), True, saying)
            self.assertIs(is_saying(value=list(saying)), True, saying)
            self.assertIs(is_saying(tuple(saying)), True, saying)
        chance = random.Random(1)
        for _ in range(600):
            self.assertIs(is_saying(saying_by_chance(chance, chance.randint(1, 6))), True)

    def test_bounds(self):
        for word in ("begins", "ends"):
            for value in (*SPOILT, -1, 6):
                self.assertIs(is_saying((word, value)), False, value)
            for letter in range(6):
                self.assertIs(is_saying([word, letter]), True)
        for by in range(-1, 9):
            for rest in range(-2, 9):
                self.assertIs(is_saying(("length", by, rest)), 2 <= by <= 6 and 0 <= rest < by, (by, rest))
        for a, b in itertools.product(range(-1, 8), repeat=2):
            for word in ("many", "nested"):
                self.assertIs(is_saying((word, a, b)), a != b and 0 <= a <= 5 and 0 <= b <= 5)
        for many in range(9):
            self.assertIs(is_saying(("has", [1] * many)), 1 <= many <= 6)
            self.assertIs(is_saying(("then", [at % 2 for at in range(many)])), 2 <= many <= 4)
            self.assertIs(is_saying(("then", tuple(at % 3 for at in range(many)))), 2 <= many <= 4)

    def test_neighbours_alike(self):
        for many in (2, 3, 4):
            for turns in itertools.product(range(3), repeat=many):
                wanted = all(turns[at] != turns[at + 1] for at in range(many - 1))
                self.assertIs(is_saying(("then", turns)), wanted, turns)
                self.assertIs(is_saying(["then", list(turns)]), wanted, turns)

    def test_each_part_spoilt(self):
        def spoil(value):
            """All values with one part of a list bent, left out, doubled."""
            for at, part in enumerate(value):
                for new in SPOILT:
                    yield [*value[:at], new, *value[at + 1:]]
                yield [*value[:at], *value[at + 1:]]
                yield [*value[:at], part, *value[at:]]
                if isinstance(part, (list, tuple)):
                    for new in spoil(part):
                        yield [*value[:at], new, *value[at + 1:]]

        def right(value):
            """Whether a value is a saying, counted out afresh."""
            if not isinstance(value, (list, tuple)) or not value or not isinstance(value[0], str):
                return False
            word, parts = value[0], list(value[1:])
            numbers = [part for part in parts if type(part) is int]
            letters = [part for part in numbers if 0 <= part <= 5]
            if word in ("begins", "ends"):
                return len(parts) == 1 == len(letters)
            if word == "length":
                return len(parts) == 2 == len(numbers) and 2 <= parts[0] <= 6 and 0 <= parts[1] < parts[0]
            if word in ("many", "nested"):
                return len(parts) == 2 == len(letters) and parts[0] != parts[1]
            if word in ("has", "then"):
                if len(parts) != 1 or not isinstance(parts[0], (list, tuple)):
                    return False
                inside = list(parts[0])
                if not all(type(letter) is int and 0 <= letter <= 5 for letter in inside):
                    return False
                if word == "has":
                    return 1 <= len(inside) <= 6
                return 2 <= len(inside) <= 4 and all(one != other for one, other in zip(inside, inside[1:]))
            if word == "mirror":
                return not parts
            return word in ("not", "both", "either") and len(parts) == (1 if word == "not" else 2) and all(map(right, parts))

        for saying in RIGHT:
            self.assertTrue(right(saying), saying)
            for value in spoil(saying):
                self.assertIs(is_saying(value), right(value), value)
                self.assertIs(is_saying(tuple(value)), right(value), value)

    def test_words_spoilt(self):
        for word in ("", "Begins", "begin", "begins ", "has\n", "mirrors", "and", "or", "none", b"mirror", 0, None, True, ODD, ("mirror",)):
            for saying in RIGHT:
                self.assertIs(is_saying((word, *saying[1:])), False, word)

    def test_how_many_within(self):
        for many in range(1, 20):
            saying = tree(many)
            self.assertEqual(len(within_by_hand(saying)), many)
            self.assertIs(is_saying(saying), many <= 16, many)
        for value in (("both", tree(8), tree(8)), ("both", tree(7), tree(8)), ("either", tree(15), ("mirror",)), ("either", tree(14), ("mirror",))):
            self.assertIs(is_saying(value), len(within_by_hand(value)) <= 16)

    def test_depth(self):
        for depth in range(1, 15):
            self.assertIs(is_saying(nots(depth)), depth <= 6, depth)
            self.assertIs(is_saying(("both", nots(depth), ("mirror",))), depth <= 5)
            self.assertIs(is_saying(["either", ["mirror"], nots(depth)]), depth <= 5)
        twice = ("mirror",)
        for _ in range(28):
            twice = ("both", twice, twice)
        self.assertIs(is_saying(twice), False)

    def test_any_values(self):
        for value in (*SPOILT, *NO_LISTS, "begins", b"begins", {"mirror": 1}, {"mirror"}, iter(["mirror"]), ((("mirror",),),), is_saying):
            if value != ("mirror",):
                self.assertIs(is_saying(value), False, value)


class Letters(unittest.TestCase):
    def test_told(self):
        for saying, wanted in (
            (("begins", 0), 1), (("begins", 4), 5), (("ends", 5), 6), (("has", [0, 3, 1]), 4), (("length", 6, 5), 1), (("many", 2, 0), 3),
            (("many", 0, 2), 3), (("nested", 5, 1), 6), (("then", (1, 0, 1)), 2), (("then", [3, 4]), 5), (("mirror",), 1), (("not", ["ends", 2]), 3),
            (("both", ("length", 6, 5), ("mirror",)), 1), (("both", ("ends", 1), ("has", (0, 4))), 5), (["either", ["ends", 3], ["ends", 1]], 4),
        ):
            self.assertEqual(letters_in(saying), wanted)
            self.assertIs(type(letters_in(saying=saying)), int)

    def test_by_chance(self):
        chance = random.Random(4)
        for _ in range(300):
            saying = saying_by_chance(chance, chance.randint(1, 6))
            named = [0]
            for part in within_by_hand(saying):
                if part[0] in ("has", "then"):
                    named += part[1]
                elif part[0] in ("begins", "ends", "many", "nested"):
                    named += part[1:]
            self.assertEqual(letters_in(saying), 1 + max(named))


class Means(unittest.TestCase):
    def test_told(self):
        for saying, yes, no in (
            (("begins", 1), ([1], [1, 0, 0]), ([0], [0, 1], [2, 1, 1])),
            (("ends", 1), ([1], [0, 0, 1], [5, 1]), ([0], [1, 0], [1, 1, 2])),
            (("has", [0, 0]), ([0, 0], [1, 0, 0, 2], [0, 0, 0]), ([0], [0, 1, 0], [1, 1], [0, 2, 0])),
            (("has", [2]), ([2], [0, 2, 1]), ([0], [1, 1])),
            (("has", [0, 1, 0, 1, 0, 1]), ([0, 1, 0, 1, 0, 1], [0, 1, 0, 1, 0, 1, 0, 1]), ([0, 1, 0, 1, 0], [0, 1, 0, 1, 1, 0, 1], [1, 0, 1, 0, 1, 0])),
            (("length", 2, 0), ([0, 3], [1] * 4), ([0], [2] * 5)),
            (("length", 6, 5), ([0] * 5, [0] * 11), ([0] * 4, [0] * 6, [1])),
            (("many", 0, 1), ([2], [0, 1], [1, 0], [1, 0, 2, 0, 1]), ([0], [1], [0, 0, 1], [1, 2, 1])),
            (("nested", 0, 1), ([2], [0, 1], [0, 2, 0, 1, 5, 1], [0, 1, 0, 1]), ([1, 0], [0], [1], [0, 1, 1, 0], [0, 1, 1], [0, 0, 1])),
            (("then", [0, 1]), ([0, 1], [0, 0, 1, 1]), ([0], [1, 0], [0, 0, 1], [0, 1, 1], [0, 1, 0], [0, 1, 2], [2, 0, 1], [0, 1, 0, 1])),
            (("then", [1, 0, 1, 2]), ([1, 0, 1, 2], [1, 1, 0, 0, 1, 1, 2, 2]), ([1, 0, 1], [1, 0, 1, 2, 2], [1, 0, 1, 1, 2], [1, 1, 0, 0, 1, 2, 2])),
            (("mirror",), ([0], [1, 1], [0, 1, 0], [0, 1, 2, 2, 1, 0]), ([0, 1], [0, 1, 1], [0, 1, 2, 1, 1])),
            (("not", ("begins", 0)), ([1, 0], [2]), ([0], [0, 1])),
            (("both", ("begins", 0), ("ends", 1)), ([0, 1], [0, 2, 1]), ([0], [1], [1, 0], [0, 1, 0])),
            (("either", ("begins", 0), ("ends", 1)), ([0], [1], [0, 1, 0], [2, 1]), ([1, 0], [2], [1, 2])),
        ):
            for word in yes:
                self.assertIs(means(saying, word), True, (saying, word))
                self.assertIs(so_by_hand(saying, word), True, (saying, word))
            for word in no:
                self.assertIs(means(saying, tuple(word)), False, (saying, word))
                self.assertIs(so_by_hand(saying, word), False, (saying, word))

    def test_each_kind_against_own_reckoning(self):
        chance = random.Random(7)
        for kind in KINDS:
            for letters in (1, 2, 3, 6) if kind in ("begins", "ends", "has", "length", "mirror") else (2, 3, 6):
                for _ in range(8):
                    saying = single_by_chance(chance, letters, kind)
                    for word in words_over(3, 5):
                        self.assertIs(means(saying, word), so_by_hand(saying, word), (saying, word))
                    for many in (8, 13, 24, 40, 200):
                        word = [chance.randrange(letters) for _ in range(many)]
                        for near in (word, so_often(saying, word, chance)[:200]):
                            self.assertIs(means(saying=saying, word=near), so_by_hand(saying, near), (saying, near))

    def test_nested_sayings_against_own_reckoning(self):
        chance = random.Random(8)
        for _ in range(250):
            saying = saying_by_chance(chance, chance.randint(1, 4))
            for word in words_over(2, 4):
                self.assertIs(means(saying, word), so_by_hand(saying, word), (saying, word))
            for many in (5, 9, 20, 40):
                word = so_often(saying, [chance.randrange(4) for _ in range(many)], chance)
                self.assertIs(means(saying, word), so_by_hand(saying, word), (saying, word))

    def test_letters_that_are_not_named_stand_anywhere(self):
        for at in range(5):
            word = [0, 0, 1, 1]
            word.insert(at, 4)
            self.assertIs(means(("many", 0, 1), word), True)
            self.assertIs(means(("nested", 0, 1), word), True)
            self.assertIs(means(("then", (0, 1)), word), False)
            self.assertIs(means(("has", (0, 0, 1, 1)), word), at in (0, 4))

    def test_what_is_passed_stays(self):
        saying, word = ["both", ["has", [0, 1]], ["not", ["then", [1, 0]]]], [0, 1, 0]
        means(saying, word)
        letters_in(saying)
        words_so(saying, 2, 3)
        self.assertEqual(saying, ["both", ["has", [0, 1]], ["not", ["then", [1, 0]]]])
        self.assertEqual(word, [0, 1, 0])


class WordsSo(unittest.TestCase):
    def test_against_own_looking(self):
        chance = random.Random(9)
        for _ in range(60):
            saying = saying_by_chance(chance, chance.randint(1, 6), 3)
            for letters, many in ((1, 12), (2, 6), (3, 4), (6, 2), (6, 1)):
                wanted = tuple(word for word in itertools.product(range(letters), repeat=many) if so_by_hand(saying, word))
                self.assertEqual(words_so(saying, letters, many), wanted)

    def test_as_many_as_there_may_be(self):
        for letters, many in ((2, 12), (4, 6), (1, 12), (3, 7), (6, 4), (5, 5)):
            self.assertEqual(len(words_so(("either", ("mirror",), ("not", ("mirror",))), letters, many)), letters ** many)
        for letters, many in ((2, 13), (3, 8), (4, 7), (5, 6), (6, 5), (6, 12)):
            wanted = ("BadNumber", "many") if many > 12 else ("TooMany", "words", 4096)
            self.assertEqual(error_of(words_so, ("mirror",), letters, many), wanted)

    def test_names(self):
        self.assertEqual(words_so(saying=["ends", 1], letters=2, many=2), ((0, 1), (1, 1)))


class Refused(unittest.TestCase):
    def test_no_sayings(self):
        for value in (*SPOILT, "begins 1", ("many", 1, 1), nots(7), tree(17), ("then", (0, 0))):
            if is_saying(value):
                continue
            for call, rest in ((letters_in, ()), (means, ([0],)), (means, ("x",)), (words_so, (2, 2)), (words_so, ("x", None))):
                self.assertEqual(error_of(call, value, *rest), ("BadSaying", "saying"), value)

    def test_no_words(self):
        for value in (*NO_LISTS, [], (), [6], [0, 6], [-1], [True], [0, None], [[0]], "01", [0] * 201, [1.0], {}, {0: 1}, [HUGE]):
            self.assertEqual(error_of(means, ("mirror",), value), ("BadWord", "word"), value)
        self.assertIs(means(("mirror",), [5] * 200), True)

    def test_no_numbers(self):
        for value in (*NO_INTEGERS, 0, 7, -1, HUGE, -HUGE):
            self.assertEqual(error_of(words_so, ("mirror",), value, 3), ("BadNumber", "letters"), value)
            self.assertEqual(error_of(words_so, ("mirror",), value, None), ("BadNumber", "letters"), value)
        for value in (*NO_INTEGERS, 0, 13, -1, HUGE, -HUGE):
            self.assertEqual(error_of(words_so, ("mirror",), 6, value), ("BadNumber", "many"), value)


if __name__ == "__main__":
    unittest.main()
