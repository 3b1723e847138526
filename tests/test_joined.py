"""backwardrow.joined: Not, Both, Either and Renamed, cell by cell, strip by strip, against their parts."""

import itertools
import unittest

from backwardrow.folds import TwoWays
from backwardrow.joined import Both, Either, Not, Renamed
from backwardrow.runs import said, strip, told, told_words
from backwardrow.slants import OneWay
from backwardrow.tables import Table
from helpers import HUGE, NO_INTEGERS, error_of
from made import Shows, strip_by_hand, strip_of, table_by_chance, told_by_hand, words_over

ANY = (None, 7, "x", [], {}, (0, 0), (), (1,), [[1]], object())
BAD_ROWS = (*NO_INTEGERS, 0, 1, "row", Table, Not, {"ways": 1, "letters": 2})
BAD_LISTS = (
    *[value for value in NO_INTEGERS if value not in ([1], (1,))], 0, 2, "", "01", b"01", range(2), {0: 0}, {0, 1}, [0] * 7, (1,) * 7, [3], [0, 3], [-1], [0, 1, -1], [True],
    [0, False], [None], ["0"], [[0]], [(0,)], [1.0], [HUGE], [-HUGE], [{}], list,
)


def rows_of(ways, letters, many):
    """Tables by chance of these ways and letters."""
    found = []
    for seed in itertools.count():
        table = table_by_chance(seed, ways)
        if table.letters == letters:
            found.append(table)
        if len(found) == many:
            return found


def pairs_of(many):
    """Pairs of tables of as many ways, for as many letters."""
    found = []
    for ways, letters in itertools.product((1, 2), (1, 2, 3)):
        rows = rows_of(ways, letters, 2 * many)
        found += list(zip(rows[:many], rows[many:]))
    return found


class Nots(unittest.TestCase):
    def test_strips_and_words(self):
        for table in [table_by_chance(seed) for seed in range(40)]:
            row = Not(table)
            for word in words_over(table.letters, 4)[::3]:
                self.assertEqual(strip(row, word, 6), tuple(map(tuple, strip_by_hand(table, word, 6))))
                self.assertIs(told(row, word), not told_by_hand(table, word))
                for tick in range(7):
                    self.assertIs(said(row, word, tick), not said(table, word, tick))

    def test_says(self):
        for table in (Table(1, 2, 4, [], [1, 2]), Table(2, 2, 4, [], [1, 2])):
            for worth in range(4):
                self.assertIs(Not(table).says(worth), worth not in (1, 2))
                self.assertIs(Not(row=Not(table)).says(worth=worth), worth in (1, 2))
        row = Shows(2, 2)
        row.says = lambda worth: worth
        self.assertIs(Not(row).says((1, 2)), False)
        self.assertIs(Not(row).says(()), True)

    def test_begin_and_next(self):
        for row in (Shows(3, 1), Shows(3, 2)):
            for letter in range(3):
                self.assertEqual(Not(row).begin(letter), row.begin(letter))
            for left, own, right in itertools.product((None, 0, ("at", 1)), (0, ("at", 2)), (None, 0, ("at", 0))):
                self.assertEqual(Not(row).next(left, own, right), row.next(left, own, right))
                self.assertEqual(Not(row).next(right=right, own=own, left=left), row.next(left, own, right))

    def test_refused(self):
        for row in BAD_ROWS:
            self.assertEqual(error_of(Not, row), ("BadRow", "row"), row)
            self.assertEqual(error_of(Not, row=row), ("BadRow", "row"), row)


class Pairs(unittest.TestCase):
    def test_strips(self):
        for one, other in pairs_of(4):
            for made in (Both, Either):
                row = made(one, other)
                for word in words_over(one.letters, 4)[::3]:
                    lines = zip(strip_by_hand(one, word, 6), strip_by_hand(other, word, 6))
                    self.assertEqual(strip(row, word, 6), tuple(tuple(zip(*pair)) for pair in lines))

    def test_said_and_told(self):
        for one, other in pairs_of(4):
            both, either = Both(one, other), Either(one, other)
            place = 0 if one.ways == 2 else -1
            for word in words_over(one.letters, 4)[::2]:
                first, second = told_by_hand(one, word), told_by_hand(other, word)
                self.assertIs(told(both, word), first and second)
                self.assertIs(told(either, word), first or second)
                lines = list(zip(strip_by_hand(one, word, 7), strip_by_hand(other, word, 7)))
                for tick in range(8):
                    first, second = lines[tick][0][place] in one.yes, lines[tick][1][place] in other.yes
                    self.assertIs(said(both, word, tick), first and second)
                    self.assertIs(said(either, word, tick), first or second)

    def test_told_words(self):
        for one, other in pairs_of(3):
            for many in range(1, 5):
                first, second = set(told_words(one, many)), set(told_words(other, many))
                self.assertEqual(told_words(Both(one, other), many), tuple(sorted(first & second)))
                self.assertEqual(told_words(Either(one, other), many), tuple(sorted(first | second)))
                self.assertEqual(told_words(Both(one, Not(other)), many), tuple(sorted(first - second)))
                self.assertEqual(told_words(Not(Either(Not(one), Not(other))), many), tuple(sorted(first & second)))

    def test_begin_and_next(self):
        for ways in (1, 2):
            one, other = Shows(2, ways), Table(ways, 2, 3, [((None, 0, 1)[:ways + 1], 2), ((2, 1, None)[:ways + 1], 0)], [])
            for made in (Both, Either):
                row = made(one, other)
                self.assertEqual([row.begin(0), row.begin(letter=1)], [(("at", 0), 0), (("at", 1), 1)])
                pairs = list(itertools.product((("at", 0), ("at", 1), 5), (0, 1, 2)))
                for left, own, right in itertools.product([None, *pairs], pairs, [None, *pairs]):
                    near = [worth or (None, None) for worth in (left, own, right)]
                    wanted = (one.next(near[0][0], near[1][0], near[2][0]), other.next(near[0][1], near[1][1], near[2][1]))
                    got = row.next(left, own, right)
                    self.assertEqual(got, wanted)
                    self.assertIsInstance(got, tuple)
                self.assertEqual(row.next(right=None, own=(1, 1), left=(2, 2)), row.next((2, 2), (1, 1), None))
                self.assertEqual(row.next([2, 2], [1, 1], [0, 1]), row.next((2, 2), (1, 1), (0, 1)))

    def test_says(self):
        one, other = Table(2, 1, 2, [], [1]), Table(2, 1, 3, [], [2])
        for first, second in itertools.product(range(2), range(3)):
            self.assertIs(Both(one, other).says((first, second)), first == 1 and second == 2)
            self.assertIs(Either(one, other).says(worth=[first, second]), first == 1 or second == 2)
        row = Shows(1, 2)
        row.says = lambda worth: worth
        for first, second in itertools.product(((), (1,)), repeat=2):
            self.assertIs(Both(row, row).says((first, second)), bool(first and second))
            self.assertIs(Either(row, row).says((first, second)), bool(first or second))

    def test_any_value_at_the_right_of_one_way(self):
        one, other = Table(1, 2, 3, {(None, 0): 2, (0, 1): 2}, [1]), OneWay(Table(2, 2, 2, {(None, 0, 1): 1}, [1]))
        for row in (Both(one, other), Either(other, one), Both(one, Either(other, Not(one))), Not(Both(one, one)),
                    Renamed(Both(other, one), [1, 0])):
            worths = [worth for line in strip_of(row, [0, 1, 1], 4) for worth in line]
            for left in [None, *worths]:
                for own in worths:
                    for right in ANY:
                        self.assertEqual(row.next(left, own, right), row.next(left, own, None))

    def test_refused_in_order(self):
        two, three, one = Table(2, 2, 3, [], []), Table(2, 3, 3, [], []), Table(1, 2, 3, [], [])
        for made in (Both, Either):
            for row in BAD_ROWS:
                self.assertEqual(error_of(made, row, two), ("BadRow", "one"), row)
                self.assertEqual(error_of(made, two, row), ("BadRow", "other"), row)
                self.assertEqual(error_of(made, other=row, one=two), ("BadRow", "other"), row)
                for again in (row, None, 5):
                    self.assertEqual(error_of(made, row, again), ("BadRow", "one"))
            for first, second, part in (
                (two, one, "ways"), (one, two, "ways"), (two, three, "letters"), (three, two, "letters"),
                (three, one, "ways"), (one, three, "ways"), (OneWay(two), OneWay(three), "letters"), (OneWay(two), three, "ways"),
            ):
                self.assertEqual(error_of(made, first, second), ("Misfit", part))


class Renames(unittest.TestCase):
    def test_strips_and_words(self):
        for table in [table_by_chance(seed) for seed in range(30)]:
            for seed in range(4):
                letters = [(seed * at + seed // 2) % table.letters for at in range(1 + (seed + table.worths) % 6)]
                row = Renamed(table, letters)
                self.assertEqual(row.letters, len(letters))
                for word in words_over(len(letters), 3)[::5]:
                    named = [letters[letter] for letter in word]
                    self.assertEqual(strip(row, word, 6), tuple(map(tuple, strip_by_hand(table, named, 6))))
                    self.assertIs(told(row, word), told_by_hand(table, named))
                    for tick in range(7):
                        self.assertIs(said(row, word, tick), said(table, named, tick))

    def test_begin_next_and_says(self):
        row = Shows(3, 2, range(400))
        named = Renamed(row, (2, 0, 2, 1))
        self.assertEqual([named.begin(letter) for letter in range(4)], [("at", letter) for letter in (2, 0, 2, 1)])
        self.assertEqual(named.begin(letter=3), ("at", 1))
        for left, own, right in itertools.product((None, 0, ("at", 1)), (0, ("at", 2)), (None, 0, ("at", 0))):
            self.assertEqual(named.next(left, own, right), row.next(left, own, right))
            self.assertEqual(named.next(right=right, own=own, left=left), row.next(left, own, right))
            self.assertIs(named.says(own), row.says(own))
        row.says = lambda worth: worth
        self.assertIs(named.says(worth=(1,)), True)

    def test_lists_of_letters(self):
        row = Table(2, 3, 3, [], [])
        for letters in ([0], (2,), [0, 0], [1] * 6, (0, 1, 2, 2, 1, 0), [2, 1, 0]):
            self.assertEqual(Renamed(row, letters).letters, len(letters))
            self.assertEqual(Renamed(letters=list(letters), row=row).letters, len(letters))
            self.assertIs(Renamed(row, list(letters)) == Renamed(row, tuple(letters)), True)
        for letters in BAD_LISTS:
            self.assertEqual(error_of(Renamed, row, letters), ("BadNumber", "letters"), letters)
        for letters, wanted in (([5], 6), ([6], None), ([0, 5, 3], 6), ([1], 1)):
            for many in range(1, 7):
                right = all(letter < many for letter in letters)
                got = error_of(Renamed, Table(1, many, 6, [], []), letters)
                self.assertEqual(got[0] if right else got, "none" if right else ("BadNumber", "letters"))

    def test_refused_in_order(self):
        for row in BAD_ROWS:
            for letters in ([0], [], None, [7]):
                self.assertEqual(error_of(Renamed, row, letters), ("BadRow", "row"), row)

    def test_the_list_may_be_changed(self):
        letters = [1, 0]
        row = Renamed(Table(2, 2, 2, [], [1]), letters)
        letters[0] = 0
        letters.append(1)
        self.assertEqual((row.letters, row.begin(0), row.begin(1)), (2, 1, 0))
        self.assertIs(row == Renamed(Table(2, 2, 2, [], [1]), [1, 0]), True)


class Nested(unittest.TestCase):
    def parts(self):
        return (
            Table(2, 2, 2, {(None, 0, 1): 1, (0, 0, 1): 1, (1, 0, 1): 1}, [1]), Table(2, 2, 3, {(0, 1, 0): 2}, [2, 0]),
            Table(1, 2, 3, {(0, 1): 2, (2, 0): 1}, [1]))

    def test_one_within_another(self):
        some, middle, late = self.parts()
        row = Renamed(Either(Both(some, Not(middle)), Both(Not(TwoWays(late)), Renamed(middle, [1, 0]))), [1, 1, 0])
        for word in words_over(3, 4):
            named = [(1, 1, 0)[letter] for letter in word]
            turned = [1 - letter for letter in named]
            wanted = told_by_hand(some, named) and not told_by_hand(middle, named)
            wanted = wanted or (not told_by_hand(late, named) and told_by_hand(middle, turned))
            for again in (row, OneWay(row), TwoWays(OneWay(row)), Not(Not(row))):
                self.assertIs(told(again, word), wanted)
            self.assertIs(told(Not(OneWay(row)), word), not wanted)

    def test_of_one_way(self):
        some, middle, late = self.parts()
        row = Either(Both(late, Not(OneWay(some))), Renamed(OneWay(middle), [1, 0]))
        for word in words_over(2, 5):
            wanted = told_by_hand(late, word) and not told_by_hand(some, word)
            wanted = wanted or told_by_hand(middle, [1 - letter for letter in word])
            for again in (row, TwoWays(row), OneWay(TwoWays(row))):
                self.assertIs(told(again, word), wanted)
            for tick in range(len(word)):
                self.assertIs(said(TwoWays(row), word, tick), told(row, word[:tick + 1]))

    def test_worths_in_nested_rows(self):
        some, middle, late = self.parts()
        row = Both(Both(some, Not(middle)), TwoWays(late))
        word = [0, 1, 1, 0, 1]
        lines = zip(strip_of(some, word, 6), strip_of(middle, word, 6), strip_of(TwoWays(late), word, 6))
        wanted = tuple(tuple(((first, second), third) for first, second, third in zip(*line)) for line in lines)
        self.assertEqual(strip(row, word, 6), wanted)

    def test_asked_again(self):
        some, middle, late = self.parts()
        first = Both(Either(some, Not(middle)), TwoWays(late))
        second = Both(Either(some, middle), TwoWays(late))
        words = words_over(2, 4)
        found = [(strip(first, word, 5), strip(second, word, 5)) for word in words]
        again = [(strip(first, word, 5), strip(second, word, 5)) for word in reversed(words)]
        self.assertEqual(again[::-1], found)

    def test_rows_of_folds_told_worths_of_any_neighbours(self):
        some, middle, late = self.parts()
        for row in (TwoWays(Both(late, Not(OneWay(some)))), TwoWays(Either(OneWay(middle), Renamed(late, [1, 0])))):
            found = [worth for line in strip_of(row, [0, 1, 0], 4) for worth in line]
            found = [worth for at, worth in enumerate(found) if worth not in found[:at]][:11]
            for left, own, right in itertools.product([None, *found], found, [None, *found]):
                self.assertIn(row.says(row.next(left, own, right)), (True, False))


class Made(unittest.TestCase):
    def test_attributes(self):
        for ways, letters in itertools.product((1, 2), range(1, 7)):
            row = Table(ways, letters, 6, [], [])
            for made in (Not(row), Both(row, row), Either(one=row, other=row), Renamed(row, [0] * letters)):
                self.assertEqual((made.letters, made.ways), (letters, ways))

    def test_equal(self):
        tables = [Table(2, 2, 2, [], [1]), Table(2, 2, 2, [], []), Table(2, 2, 3, [], [1])]
        makers = [Not, lambda row: Both(row, tables[0]), lambda row: Both(tables[1], row), lambda row: Either(row, tables[0]),
                  lambda row: Either(tables[1], row), lambda row: Renamed(row, [0, 1]), lambda row: Renamed(row, [1, 0]),
                  lambda row: Renamed(row, (1,)), lambda row: Renamed(row, [1, 1]), lambda row: Not(Not(row)), lambda row: row]
        rows = [make(table) for make in makers for table in tables]
        parts = [(name, at) for name in range(len(makers)) for at in range(len(tables))]
        # Both of the second and the first table is made in two ways, and so is Either of them.
        same = {(2, 0): (1, 1), (4, 0): (3, 1)}
        parts = [same.get(part, part) for part in parts]
        for row, part in zip(rows, parts):
            for again, other in zip([make(Table.read(str(table))) for make in makers for table in tables], parts):
                self.assertIs(row == again, part == other, (part, other))
                self.assertIs(row != again, part != other, (part, other))
            for value in (None, 1, "x", (row,), [], object()):
                self.assertIs(row == value, False)
                self.assertIs(value == row, False)


if __name__ == "__main__":
    unittest.main()
