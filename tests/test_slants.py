"""backwardrow.slants: OneWay cell by cell, what it tells of words, the slant, triangles."""

import itertools
import unittest

from backwardrow.runs import said, strip, told, told_words
from backwardrow.slants import OneWay, slant, triangle, unslant
from backwardrow.tables import Table
from helpers import HUGE, NO_INTEGERS, NO_LISTS, error_of
from made import Shows, table_by_chance, words_over

ANY = (None, 7, "x", [], {}, (0, 0), (1, 0, None, None), [[1]], object())
BAD_PLACES = (-1, -HUGE, *NO_INTEGERS)
BAD_ROWS = (*NO_INTEGERS, 0, 1, "row", Table, OneWay)


class Asked(Shows):
    """A row whose next tells what it was asked with."""

    def next(self, left, own, right):
        return ("next", left, own, right)


def wanted_next(inner, left, own):
    """What [5] tells for a cell, case by case."""
    case = ("border" if left is None else "works" if len(left) == 4 else "waits", "works" if len(own) == 4 else "waits")
    if case == ("border", "waits"):
        return (1, own[1], None, None)
    if case == ("works", "waits"):
        return (1, own[1], None, left[2])
    if case == ("waits", "waits"):
        return own
    if case in (("border", "works"), ("waits", "works")):
        return (1, None, own[1], None)
    if left[2] is None:
        return (1, None, own[1], None)
    return (1, inner.next(left[3], left[2], own[1]), own[1], left[2])


class Cells(unittest.TestCase):
    def test_begin(self):
        for row in (table_by_chance(4, 2), Shows(3, 2)):
            for letter in range(row.letters):
                self.assertEqual(OneWay(row).begin(letter), (0, row.begin(letter)))
        self.assertEqual(OneWay(Shows(2, 2)).begin(letter=1), (0, ("at", 1)))

    def test_all_cases(self):
        for inner in (table_by_chance(4, 2), table_by_chance(12, 2), Asked(2, 2)):
            one = OneWay(inner)
            some = (None, 0, 1) if not isinstance(inner, Asked) else (None, (), ("at", 0), 0)
            worths = [(0, worth) for worth in some[1:]]
            worths += [(1, *parts) for parts in itertools.product(some, repeat=3)]
            for left in [None, *worths]:
                for own in worths:
                    wanted = wanted_next(inner, left, own)
                    got = one.next(left, own, None)
                    self.assertEqual(got, wanted, (left, own))
                    self.assertIsInstance(got, tuple)

    def test_by_hand(self):
        one = OneWay(Asked(6, 2))
        for left, own, wanted in (
            (None, (0, 5), (1, 5, None, None)),
            ((1, 2, 3, 4), (0, 5), (1, 5, None, 3)),
            ((1, 2, None, 4), (0, 5), (1, 5, None, None)),
            ((0, 2), (0, 5), (0, 5)),
            (None, (1, 5, 4, 3), (1, None, 5, None)),
            ((0, 2), (1, 5, 4, 3), (1, None, 5, None)),
            ((1, 2, None, 4), (1, 5, 3, 3), (1, None, 5, None)),
            ((1, 2, 3, 4), (1, 5, 0, 0), (1, ("next", 4, 3, 5), 5, 3)),
            ((1, 2, 3, None), (1, 5, 0, 0), (1, ("next", None, 3, 5), 5, 3)),
            ((1, None, 3, 4), (1, None, 0, 0), (1, ("next", 4, 3, None), None, 3)),
            ((1, 2, 0, 0), (1, 0, 0, 0), (1, ("next", 0, 0, 0), 0, 0)),
            ((1, 2, (), ()), (1, (), 0, 0), (1, ("next", (), (), ()), (), ())),
            (None, (1, None, None, None), (1, None, None, None)),
        ):
            self.assertEqual(one.next(left, own, None), wanted)
            self.assertEqual(one.next(right=(0, 1), left=left, own=own), wanted)

    def test_any_value_at_the_right(self):
        one = OneWay(Asked(2, 2))
        for left in (None, (0, 1), (1, 0, 1, 0)):
            for own in ((0, 1), (1, 0, 1, None)):
                for right in ANY:
                    self.assertEqual(one.next(left, own, right), one.next(left, own, None))

    def test_lists_for_tuples(self):
        one = OneWay(table_by_chance(4, 2))
        for left in (None, (0, 1), (1, 0, 1, 0), (1, 0, None, None)):
            for own in ((0, 1), (1, 0, 1, None)):
                got = one.next(None if left is None else list(left), list(own), None)
                self.assertEqual(repr(got), repr(one.next(left, own, None)))
                self.assertIs(one.says(list(own)), one.says(own))

    def test_says(self):
        inner = Table(2, 2, 3, [], [0, 2])
        one = OneWay(inner)
        for worth in range(3):
            self.assertIs(one.says((0, worth)), False)
            for before in (None, 0, 1):
                self.assertIs(one.says((1, worth, before, None)), worth in (0, 2))
                self.assertIs(one.says((1, None, before, worth)), False)
        always = Shows(2, 2)
        always.says = lambda worth: worth
        self.assertIs(OneWay(always).says((1, ("at", 1), None, None)), True)
        self.assertIs(OneWay(always).says((1, (), None, None)), False)
        self.assertIs(OneWay(always).says((1, None, None, None)), False)
        always.says = lambda worth: True
        for worth, wanted in (((1, None, 0, 0), False), ((0, 0), False), ((1, 0, None, None), True)):
            self.assertIs(OneWay(always).says(worth), wanted)


class Made(unittest.TestCase):
    def test_attributes(self):
        for letters in range(1, 7):
            row = Table(2, letters, 7, [], [3])
            one = OneWay(row=row)
            self.assertEqual((one.letters, one.ways), (letters, 1))
            self.assertIs(one.row == row, True)

    def test_refused(self):
        for row in BAD_ROWS:
            self.assertEqual(error_of(OneWay, row), ("BadRow", "row"), row)
        for row in (Table(1, 2, 2, [], []), OneWay(Table(2, 2, 2, [], [])), Shows(2, 1)):
            self.assertEqual(error_of(OneWay, row), ("Misfit", "ways"))

    def test_equal(self):
        first, second = Table(2, 2, 3, [((0, 0, 0), 1), ((0, 1, 0), 1)], [1, 2]), Table(2, 2, 3, {(0, 1, 0): 1, (0, 0, 0): 1}, [2, 1])
        third = Table(2, 2, 3, {(0, 1, 0): 1, (0, 0, 0): 1}, [2])
        self.assertIs(OneWay(first) == OneWay(second), True)
        self.assertIs(OneWay(first) != OneWay(second), False)
        self.assertIs(OneWay(first) == OneWay(third), False)
        for value in (first, None, 1, "x", (first,), [], object()):
            self.assertIs(OneWay(first) == value, False)
            self.assertIs(value == OneWay(first), False)


class Tells(unittest.TestCase):
    def test_the_same_words(self):
        for seed in range(60):
            row = table_by_chance(seed, ways=2)
            one = OneWay(row)
            for many in range(1, 6):
                self.assertEqual(told_words(one, many), told_words(row, many), seed)

    def test_the_same_of_other_rows(self):
        for falls in (range(0, 997, 2), range(0, 997, 3), range(500)):
            row = Shows(2, 2, falls)
            words = words_over(2, 6)
            found = [told(row, word) for word in words]
            self.assertEqual([told(OneWay(row), word) for word in words], found)
            self.assertEqual(len(set(found)), 2)

    def test_worths_along_the_slant(self):
        for row in [table_by_chance(seed, ways=2) for seed in range(25)] + [Shows(2, 2)]:
            for word in ([0], [row.letters - 1, 0], [0, 0, row.letters - 1, 0, row.letters - 1, 0]):
                many = len(word)
                lines, slanted = strip(row, word, many), strip(OneWay(row), word, 3 * many)
                for tick in range(many):
                    for cell in range(many - tick):
                        self.assertEqual(slanted[2 * tick + cell + 1][cell + tick][0:2], (1, lines[tick][cell]))
                        if cell == 0:
                            for later in range(2 * tick + 2, 3 * many + 1):
                                self.assertIsNone(slanted[later][tick][1])

    def test_the_last_cell_goes_backward(self):
        row = Shows(2, 2)
        word = [0, 1, 1, 0, 1]
        lines, slanted = strip(row, word, 4), strip(OneWay(row), word, 9)
        for tick in range(5):
            self.assertEqual(slanted[5 + tick][4][1], lines[tick][4 - tick])

    def test_cells_begin_one_behind_another(self):
        slanted = strip(OneWay(Shows(2, 2)), [0, 1, 1, 0], 8)
        for tick in range(9):
            for cell in range(4):
                self.assertEqual(slanted[tick][cell][0], 1 if tick > cell else 0)

    def test_long_words(self):
        runner = Table(2, 2, 2, {(None, 0, 1): 1, (0, 0, 1): 1, (1, 0, 1): 1}, [1])
        for many in (40, 200):
            word = [0] * (many - 1) + [1]
            self.assertIs(told(OneWay(runner), word), True)
            self.assertIs(told(OneWay(runner), [0] * many), False)
            self.assertIs(said(OneWay(runner), word, many - 1), False)
            self.assertIs(said(OneWay(runner), word, 2 * many), False)


class Slant(unittest.TestCase):
    def test_small_pairs(self):
        found = {}
        for cell in range(25):
            for tick in range(25):
                place = slant(cell, tick)
                self.assertEqual(place, (cell + tick, 2 * tick + cell + 1))
                self.assertIsInstance(place, tuple)
                self.assertEqual(unslant(*place), (cell, tick))
                found[place] = (cell, tick)
        for cell in range(20):
            for tick in range(25):
                self.assertEqual(unslant(tick=tick, cell=cell), found.get((cell, tick)), (cell, tick))

    def test_great_ones(self):
        many = 10 ** 30 - 1
        for cell, tick in ((0, many), (many, 0), (many, many), (HUGE, 1), (1, HUGE)):
            self.assertEqual(slant(tick=tick, cell=cell), (cell + tick, 2 * tick + cell + 1))
            self.assertEqual(unslant(*slant(cell, tick)), (cell, tick))
        self.assertIsNone(unslant(many, many))
        self.assertEqual(unslant(many, many + 1), (many, 0))
        self.assertEqual(unslant(many, 2 * many + 1), (0, many))
        self.assertIsNone(unslant(many, 2 * many + 2))

    def test_wrong_ones(self):
        for call in (slant, unslant):
            for value in BAD_PLACES:
                self.assertEqual(error_of(call, value, 0), ("BadNumber", "cell"), value)
                self.assertEqual(error_of(call, 0, value), ("BadNumber", "tick"), value)
                self.assertEqual(error_of(call, value, value), ("BadNumber", "cell"), value)


class Triangles(unittest.TestCase):
    def test_out_of_strips(self):
        for row in [table_by_chance(seed, ways=2) for seed in range(40)] + [Shows(2, 2)]:
            for word in words_over(row.letters, 4)[::2]:
                lines = strip(row, word, len(word))
                wanted = tuple(lines[tick][:len(word) - tick] for tick in range(len(word)))
                self.assertEqual(triangle(row, word), wanted)
                self.assertEqual(triangle(word=list(word), row=row), wanted)
                self.assertTrue(all(isinstance(line, tuple) for line in triangle(row, word)))

    def test_long_words(self):
        row = table_by_chance(6, ways=2)
        for many in (40, 200):
            word = [(at * at // 3) % row.letters for at in range(many)]
            lines = strip(row, word, many)
            self.assertEqual(triangle(row, word), tuple(lines[tick][:many - tick] for tick in range(many)))

    def test_refused(self):
        row, other = Table(2, 2, 3, [], []), Table(1, 2, 3, [], [])
        for no_row in BAD_ROWS:
            for word in ([0], [2], None):
                self.assertEqual(error_of(triangle, no_row, word), ("BadRow", "row"), no_row)
        for word in (*NO_LISTS, [], (), [2], [0, -1], [True], [0] * 201):
            self.assertEqual(error_of(triangle, row, word), ("BadWord", "word"), word)
            self.assertEqual(error_of(triangle, other, word), ("BadWord", "word"), word)
        self.assertEqual(error_of(triangle, other, [0]), ("Misfit", "ways"))
        self.assertEqual(error_of(triangle, OneWay(row), [0, 1]), ("Misfit", "ways"))


if __name__ == "__main__":
    unittest.main()
