"""backwardrow.runs: strips, worths, seats, due ticks, and what rows tell, against what the test reckons by itself."""

import itertools
import unittest

from backwardrow.runs import due_tick, said, seat, strip, told, told_words, worth_at
from backwardrow.slants import OneWay
from backwardrow.tables import Table
from helpers import HUGE, NO_INTEGERS, NO_LISTS, error_of
from made import Shows, strip_by_hand, table_by_chance, told_by_hand, words_over

BAD_ROWS = (*NO_INTEGERS, 0, 1, "row", Table, Table.read, {"ways": 2, "letters": 2})
BAD_TICKS = (-1, 1001, HUGE, -HUGE, *NO_INTEGERS)
BAD_MANY = (0, -1, 201, HUGE, -HUGE, *NO_INTEGERS)


def bad_words(letters):
    """Values that are no words over so many letters."""
    spoilt = [[0, part] for part in (letters, -1, HUGE, *NO_INTEGERS)]
    return (*NO_LISTS, [], (), {}, {0: 0}, range(1), [0] * 201, (0,) * 201, *spoilt, [letters], [[0]])


def fixed_lines(lines):
    return tuple(tuple(line) for line in lines)


class Strips(unittest.TestCase):
    def test_against_the_hand(self):
        for seed in range(80):
            table = table_by_chance(seed)
            for word in words_over(table.letters, 4)[::3]:
                for ticks in (0, 1, 2, 9):
                    wanted = fixed_lines(strip_by_hand(table, word, ticks))
                    self.assertEqual(strip(table, word, ticks), wanted)
                    self.assertEqual(strip(ticks=ticks, word=list(word), row=table), wanted)

    def test_kinds(self):
        for lines in (strip(table_by_chance(1), [0], 3), strip(Shows(2, 2), [0, 1], 3)):
            self.assertIsInstance(lines, tuple)
            self.assertEqual(len(lines), 4)
            self.assertTrue(all(isinstance(line, tuple) for line in lines))

    def test_one_cell_has_borders_beside_it(self):
        self.assertEqual(strip(Table(2, 1, 3, {(None, 0, None): 1, (None, 1, None): 2}, []), [0], 3), ((0,), (1,), (2,), (2,)))
        self.assertEqual(strip(Table(1, 1, 3, {(None, 0): 2, (None, 2): 1}, []), [0], 3), ((0,), (2,), (1,), (1,)))

    def test_borders_stand_at_the_ends_alone(self):
        edges = Table(2, 1, 4, {(None, 0, 0): 1, (0, 0, None): 2, (0, 0, 0): 3}, [])
        self.assertEqual(strip(edges, [0, 0, 0, 0], 1)[1], (1, 3, 3, 2))
        edges = Table(1, 1, 4, {(None, 0): 1, (0, 0): 3}, [])
        self.assertEqual(strip(edges, [0, 0, 0, 0], 1)[1], (1, 3, 3, 3))

    def test_worths_of_any_kind(self):
        row = Shows(2, 2)
        first = (row.begin(0), row.begin(1), row.begin(1))
        second = (row.next(None, first[0], first[1]), row.next(first[0], first[1], first[2]), row.next(first[1], first[2], None))
        self.assertEqual(strip(row, [0, 1, 1], 1), (first, second))
        self.assertNotEqual(second[0], second[2])

    def test_bounds_of_ticks_and_words(self):
        table = Table(2, 2, 2, {(0, 0, 1): 1, (1, 1, 0): 0}, [1])
        self.assertEqual(len(strip(table, [0, 1], 1000)), 1001)
        self.assertEqual(error_of(strip, table, [0, 1], 1001), ("BadNumber", "ticks"))
        word = [0, 1, 1, 0] * 50
        self.assertEqual(strip(table, word, 9), fixed_lines(strip_by_hand(table, word, 9)))
        self.assertEqual(error_of(strip, table, word + [0], 9), ("BadWord", "word"))

    def test_a_list_stays_as_it_is(self):
        word = [0, 1, 0]
        strip(table_by_chance(0), [0], 4)
        told(Table(2, 2, 2, {(0, 1, 0): 0}, []), word)
        strip(Table(2, 2, 2, {(0, 1, 0): 0}, []), word, 3)
        self.assertEqual(word, [0, 1, 0])


class Worths(unittest.TestCase):
    def test_all_cells_and_ticks(self):
        rows = [table_by_chance(seed) for seed in range(30)] + [Shows(2, 2), Shows(2, 1), OneWay(Shows(2, 2))]
        for row in rows:
            for word in ([0], [row.letters - 1, 0], [0, row.letters - 1, 0, 0, row.letters - 1]):
                lines = strip(row, word, 13)
                for cell in range(len(word)):
                    for tick in range(14):
                        self.assertEqual(worth_at(row, word, cell, tick), lines[tick][cell])
                self.assertEqual(worth_at(tick=2, cell=0, word=tuple(word), row=row), lines[2][0])

    def test_long_words(self):
        for ways in (1, 2):
            table = table_by_chance(21, ways)
            word = [(at * at // 3) % table.letters for at in range(200)]
            lines = strip_by_hand(table, word, 230)
            for cell in (0, 1, 57, 198, 199):
                for tick in (0, 1, 99, 199, 230):
                    self.assertEqual(worth_at(table, word, cell, tick), lines[tick][cell])

    def test_the_last_tick(self):
        turns = Table(2, 1, 3, {(None, 0, None): 1, (None, 1, None): 2, (None, 2, None): 0}, [1])
        self.assertEqual([worth_at(turns, [0], 0, tick) for tick in (998, 999, 1000)], [2, 0, 1])
        self.assertEqual(error_of(worth_at, turns, [0], 0, 1001), ("BadNumber", "tick"))

    def test_cells(self):
        row = table_by_chance(2)
        for many in (1, 2, 200):
            for cell in (many, -1, HUGE, -HUGE, *NO_INTEGERS):
                self.assertEqual(error_of(worth_at, row, [0] * many, cell, 0), ("BadNumber", "cell"), cell)
            for cell in (0, many - 1):
                self.assertEqual(worth_at(row, [0] * many, cell, 0), 0)


class Seats(unittest.TestCase):
    def test_all_lengths(self):
        for row in (table_by_chance(1, 2), Shows(3, 2)):
            for many in range(1, 201):
                self.assertEqual((seat(row, many), due_tick(row, many)), (0, many - 1))
        for row in (table_by_chance(1, 1), Shows(3, 1), OneWay(Shows(3, 2))):
            for many in range(1, 201):
                self.assertEqual((seat(many=many, row=row), due_tick(many=many, row=row)), (many - 1, 2 * many - 1))

    def test_wrong_ones(self):
        for call in (seat, due_tick, told_words):
            for many in BAD_MANY:
                self.assertEqual(error_of(call, table_by_chance(1), many), ("BadNumber", "many"), many)
                for row in BAD_ROWS:
                    self.assertEqual(error_of(call, row, many), ("BadRow", "row"), row)
            for row in BAD_ROWS:
                self.assertEqual(error_of(call, row, 2), ("BadRow", "row"), row)


class Told(unittest.TestCase):
    def test_told_and_said(self):
        for seed in range(80):
            table = table_by_chance(seed)
            place = 0 if table.ways == 2 else -1
            for word in words_over(table.letters, 4):
                wanted = told_by_hand(table, word)
                self.assertIs(told(table, word), wanted)
                self.assertIs(told(word=list(word), row=table), wanted)
                lines = strip_by_hand(table, word, 10)
                for tick in (0, 1, len(word) - 1, 2 * len(word) - 1, 10):
                    self.assertIs(said(table, word, tick), lines[tick][place] in table.yes)
                    self.assertIs(said(tick=tick, row=table, word=list(word)), lines[tick][place] in table.yes)

    def test_true_and_false_are_told(self):
        row = Shows(2, 2)
        row.says = lambda worth: worth
        self.assertIs(told(row, [0, 1]), True)
        self.assertIs(said(row, [0, 1], 0), True)
        row.says = lambda worth: []
        self.assertIs(told(row, [0, 1]), False)
        self.assertEqual(told_words(row, 2), ())

    def test_long_words(self):
        runner = Table(2, 2, 2, {(None, 0, 1): 1, (0, 0, 1): 1, (1, 0, 1): 1}, [1])
        for many in (40, 200):
            self.assertIs(told(runner, [0] * (many - 1) + [1]), True)
            self.assertIs(told(runner, [0] * many), False)
            self.assertIs(said(runner, [0] * (many - 1) + [1], many - 2), False)
        self.assertEqual(error_of(told, runner, [0] * 201), ("BadWord", "word"))
        goes = Table(1, 2, 2, {(1, 0): 1}, [1])
        for many in (40, 200):
            self.assertIs(told(goes, [1] + [0] * (many - 1)), True)
            self.assertIs(said(goes, [1] + [0] * (many - 1), many - 1), True)
            self.assertIs(said(goes, [1] + [0] * (many - 1), many - 2), False)

    def test_told_words(self):
        for seed in range(60):
            table = table_by_chance(seed)
            for many in (1, 2, 3, 5):
                words = itertools.product(range(table.letters), repeat=many)
                wanted = tuple(word for word in words if told_by_hand(table, word))
                self.assertEqual(told_words(table, many), wanted)
                self.assertEqual(told_words(many=many, row=table), wanted)

    def test_the_most_words(self):
        for letters, many in ((2, 12), (4, 6), (1, 200), (6, 4), (3, 7)):
            row = Table(2, letters, 6, [], [0])
            self.assertEqual(len(told_words(row, many)), letters ** (many - 1))
        for letters, many in ((2, 13), (4, 7), (6, 5), (3, 8), (2, 200), (6, 200)):
            for ways in (1, 2):
                row = Table(ways, letters, 6, [], [0])
                self.assertEqual(error_of(told_words, row, many), ("TooMany", "words", 4096))
        self.assertEqual(error_of(told_words, Table(2, 2, 2, [], []), 201), ("BadNumber", "many"))
        self.assertEqual(told_words(Table(1, 1, 1, [], [0]), 200), ((0,) * 200,))


class Wrong(unittest.TestCase):
    def test_one_alone(self):
        for row in (Table(1, 2, 3, [], []), Table(2, 6, 6, [], []), Shows(1, 2)):
            for word in bad_words(row.letters):
                self.assertEqual(error_of(strip, row, word, 2), ("BadWord", "word"), word)
                self.assertEqual(error_of(worth_at, row, word, 0, 2), ("BadWord", "word"), word)
                self.assertEqual(error_of(told, row, word), ("BadWord", "word"), word)
                self.assertEqual(error_of(said, row, word, 2), ("BadWord", "word"), word)
            for ticks in BAD_TICKS:
                self.assertEqual(error_of(strip, row, [0], ticks), ("BadNumber", "ticks"), ticks)
                self.assertEqual(error_of(worth_at, row, [0], 0, ticks), ("BadNumber", "tick"), ticks)
                self.assertEqual(error_of(said, row, [0], ticks), ("BadNumber", "tick"), ticks)
        for row in BAD_ROWS:
            self.assertEqual(error_of(strip, row, [0], 2), ("BadRow", "row"), row)
            self.assertEqual(error_of(worth_at, row, [0], 0, 2), ("BadRow", "row"), row)
            self.assertEqual(error_of(told, row, [0]), ("BadRow", "row"), row)
            self.assertEqual(error_of(said, row, [0], 2), ("BadRow", "row"), row)

    def test_several_at_once(self):
        row = Table(2, 2, 3, [], [])
        for no_row in (None, 3, "row"):
            for word in ([0], [], [2], None):
                for number in (0, -1, None, 1001):
                    for call in (strip, said):
                        self.assertEqual(error_of(call, no_row, word, number), ("BadRow", "row"))
                    self.assertEqual(error_of(worth_at, no_row, word, number, number), ("BadRow", "row"))
                    self.assertEqual(error_of(told, no_row, word), ("BadRow", "row"))
        for word in ([], [2], None, [0] * 201):
            for number in (0, -1, None, 1001):
                for call in (strip, said):
                    self.assertEqual(error_of(call, row, word, number), ("BadWord", "word"))
                self.assertEqual(error_of(worth_at, row, word, number, number), ("BadWord", "word"))
        for cell in (-1, 2, None, True):
            for tick in BAD_TICKS:
                self.assertEqual(error_of(worth_at, row, [0, 1], cell, tick), ("BadNumber", "cell"))


if __name__ == "__main__":
    unittest.main()
