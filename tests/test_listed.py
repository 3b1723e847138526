"""backwardrow.listed: names and tables against a search of the test itself, bounds, errors in their order."""

import itertools
import unittest

from backwardrow.folds import TwoWays
from backwardrow.joined import Both, Either, Not, Renamed
from backwardrow.listed import Listed, listed
from backwardrow.papers import Denial, Paper
from backwardrow.runs import said, strip, told_words
from backwardrow.slants import OneWay
from backwardrow.tables import Table
from helpers import HUGE, NO_INTEGERS, ODD, error_of
from made import come_to, keys_of, strip_of, table_by_chance

BAD_ROWS = (*NO_INTEGERS, 0, 1, "row", Table, listed, {"ways": 1, "letters": 2})
BAD_MOST = (0, 13, -1, HUGE, -HUGE, *NO_INTEGERS)


def few_rows():
    """Rows of every kind with at most 12 worths, as pairs of a row and of all worths that it can come to."""
    tables = [table_by_chance(seed) for seed in range(60)]
    small = [Table(ways, 2, 2, [(key, 1 - key[1]) for key in keys_of(ways, 2)[at::3]], [1]) for ways in (1, 2) for at in range(3)]
    rows = tables + [Not(table) for table in tables[:9]]
    rows += [Renamed(table, list(range(table.letters))[::-1]) for table in tables[:20]]
    rows += [made(one, other) for made in (Both, Either) for one in small for other in small if one.ways == other.ways]
    rows += [Both(Not(one), Renamed(one, [1, 0])) for one in small]
    rows += [OneWay(Table(2, 1, 1, [], [0])), OneWay(Table(2, 1, 1, [], [])), TwoWays(Table(1, 1, 1, [], [0]))]
    found = []
    for row in rows:
        worths = come_to(row, 12)
        if worths is not None:
            found.append((row, worths))
    return found


def begins_of(row):
    return tuple(row.begin(letter) for letter in range(row.letters))


class Names(unittest.TestCase):
    def test_all_that_a_row_can_come_to(self):
        many = set()
        for row, worths in few_rows():
            paper = listed(row, 12)
            self.assertIsInstance(paper, Listed)
            self.assertIsInstance(paper.names, tuple)
            self.assertEqual(paper.names[:row.letters], begins_of(row))
            self.assertEqual(len(paper.names), len(worths))
            self.assertEqual(set(paper.names), worths)
            many.add(len(worths))
        self.assertTrue({1, 2, 3, 4, 5} <= many and max(many) > 5, many)

    def test_only_what_it_can_come_to(self):
        row = Table(2, 2, 5, {(None, 0, 1): 4, (4, 1, None): 2, (3, 3, 3): 1}, [2])
        self.assertEqual(set(listed(row, 12).names), {0, 1, 2, 4})
        row = Table(1, 1, 3, {(None, 0): 2, (None, 1): 0}, [])
        self.assertEqual(listed(row, 2).names, (0, 2))

    def test_borders_and_all_neighbours_are_asked(self):
        # Each row comes to its last worth by one key alone.
        for ways in (1, 2):
            for key in keys_of(ways, 2):
                row = Table(ways, 2, 3, {key: 2}, [2])
                self.assertEqual(set(listed(row, 3).names), {0, 1, 2}, key)
                self.assertEqual(error_of(listed, row, 2), ("TooMany", "worths", 2))
        for ways in (1, 2):
            for key in [key for key in keys_of(ways, 4) if {2, 3} <= set(key)]:
                row = Table(ways, 2, 5, {(None, 0, 0)[:ways + 1]: 2, (None, 1, 1)[:ways + 1]: 3, key: 4}, [])
                self.assertEqual(len(listed(row, 12).names), 5, key)

    def test_twelve_worths(self):
        turns = Table(2, 1, 12, {(None, own, None): own + 1 for own in range(11)}, [11])
        self.assertEqual(listed(turns, 12).names, tuple(range(12)))
        self.assertEqual(error_of(listed, turns, 11), ("TooMany", "worths", 11))
        late = Table(1, 1, 12, {(None, own): own + 1 for own in range(11)}, [11])
        self.assertEqual(listed(late, 12).names, tuple(range(12)))
        self.assertEqual(error_of(listed, late, 11), ("TooMany", "worths", 11))


class Tables(unittest.TestCase):
    def test_the_table_goes_on_and_says_as_the_row(self):
        for row, worths in few_rows():
            paper = listed(row, 12)
            table, names = paper.table, paper.names
            self.assertIsInstance(table, Table)
            self.assertEqual((table.ways, table.letters, table.worths), (row.ways, row.letters, len(worths)))
            for key in keys_of(row.ways, len(names)):
                near = [None if number is None else names[number] for number in key] + [None]
                key = (*key, None)
                self.assertEqual(names[table.next(*key[:3])], row.next(*near[:3]), key)
            for number, name in enumerate(names):
                self.assertIs(table.says(number), bool(row.says(name)))
            self.assertEqual(table.yes, tuple(number for number, name in enumerate(names) if row.says(name)))

    def test_strips_and_words(self):
        for row, _ in few_rows()[::3]:
            paper = listed(row, 12)
            for many in range(1, 5):
                self.assertEqual(told_words(paper.table, many), told_words(row, many))
                word = [(at * at // 2) % row.letters for at in range(many)]
                named = tuple(tuple(paper.names[number] for number in line) for line in strip(paper.table, word, 8))
                self.assertEqual(named, tuple(map(tuple, strip_of(row, word, 8))))
                self.assertIs(said(paper.table, word, 2), said(row, word, 2))

    def test_texts(self):
        for row, _ in few_rows()[::5]:
            table = listed(row, 12).table
            self.assertIs(Table.read(str(table)) == table, True)


class Bounds(unittest.TestCase):
    def test_most(self):
        for row, worths in few_rows():
            many = len(worths)
            for most in range(1, 13):
                if most < many:
                    self.assertEqual(error_of(listed, row, most), ("TooMany", "worths", most))
                else:
                    self.assertIs(listed(most=most, row=row) == listed(row, many), True)

    def test_too_many(self):
        table = Table(2, 2, 3, [((None, 0, 1), 2), ((0, 1, 1), 0), ((1, 0, 2), 1)], [1])
        five = Table(2, 2, 5, [((None, 0, 1), 2), ((0, 1, 1), 3), ((1, 0, 2), 4)], [1])
        for row in (OneWay(table), TwoWays(OneWay(table)), Both(five, table), OneWay(TwoWays(OneWay(table)))):
            self.assertIsNone(come_to(row, 12))
            for most in (1, 2, 5, 12):
                self.assertEqual(error_of(listed, row, most), ("TooMany", "worths", most))

    def test_more_letters_than_most(self):
        for letters in range(1, 7):
            for most in range(1, 13):
                row = Table(2, letters, 7, [], [0])
                wanted = ("TooMany", "worths", most) if most < letters else "none"
                self.assertEqual(error_of(listed, row, most) if most < letters else error_of(listed, row, most)[0], wanted)

    def test_letters_that_begin_alike(self):
        some = Table(2, 3, 3, [((0, 1, 2), 2)], [1])
        for letters, alike in (([0, 0], True), ([0, 1, 0], True), ([2, 1, 0], False), ([0, 1, 2, 1], True), ([1], False), ([2] * 6, True)):
            for row in (Renamed(some, letters), OneWay(Renamed(some, letters)), Both(Renamed(some, letters), Renamed(some, letters))):
                got = error_of(listed, row, 12)
                self.assertEqual(got == ("Misfit", "letters"), alike, letters)
        rows = (Renamed(some, [0, 0, 1]), Renamed(some, [0, 1, 1]))
        self.assertEqual(set(listed(Both(*rows), 12).names[:3]), {(0, 0), (0, 1), (1, 1)})

    def test_errors_in_order(self):
        alike, many = Renamed(Table(2, 2, 2, [], []), [0, 0]), Table(2, 3, 5, [], [])
        for row in BAD_ROWS:
            self.assertEqual(error_of(listed, row, 5), ("BadRow", "row"), row)
            for most in (0, None, True):
                self.assertEqual(error_of(listed, row, most), ("BadRow", "row"), row)
        for most in BAD_MOST:
            for row in (alike, many, OneWay(many)):
                self.assertEqual(error_of(listed, row, most), ("BadNumber", "most"), most)
        for most in (1, 2, 12):
            self.assertEqual(error_of(listed, alike, most), ("Misfit", "letters"))
            self.assertEqual(error_of(listed, Both(alike, alike), most), ("Misfit", "letters"))
            self.assertEqual(error_of(listed, OneWay(alike), most), ("Misfit", "letters"))
        self.assertEqual(error_of(listed, many, 2), ("TooMany", "worths", 2))

    def test_asked_again(self):
        rows = [row for row, _ in few_rows()]
        found = [listed(row, 12) for row in rows]
        for (row, _), paper in reversed(list(zip(few_rows(), found))):
            again = listed(row, 12)
            self.assertIs(again == paper, True)
            self.assertEqual(again.names, paper.names)
            self.assertEqual(str(again.table), str(paper.table))


class Papers(unittest.TestCase):
    def test_any_parts(self):
        table = Table(2, 2, 2, [], [1])
        for names, kept in (((0, 1), (0, 1)), ([0, [1, (2, [3])]], (0, (1, (2, (3,))))), (None, None), ("x", "x"), (ODD, ODD), (7, 7)):
            paper = Listed(names, table)
            self.assertEqual((paper.word, paper.names), ("listed", kept))
            self.assertEqual(paper.parts, (kept, table))
            self.assertIs(paper.table, table)
            self.assertIs(bool(paper), True)
            self.assertIsInstance(paper, Paper)
            self.assertNotIsInstance(paper, Denial)
            self.assertIs(Listed(table=names, names=table) == Listed(table, names), True)
        self.assertEqual(Listed([], [[1]]).table, ((1,),))

    def test_equal(self):
        table, same, other = Table(2, 2, 2, [], [1]), Table(2, 2, 2, {}, (1,)), Table(2, 2, 2, [], [0])
        self.assertIs(Listed([0, 1], table) == Listed((0, 1), same), True)
        for value in (Listed([1, 0], table), Listed([0, 1], other), Listed([0], table), Paper("listed", (0, 1), table), table,
                      (0, 1), None, "listed", Listed(table, [0, 1])):
            self.assertIs(Listed([0, 1], table) == value, False)
            self.assertIs(Listed([0, 1], table) != value, True)

    def test_the_list_may_be_changed(self):
        names = [0, [1]]
        paper = Listed(names, 5)
        names[1].append(2)
        names.append(3)
        self.assertEqual(paper.names, (0, (1,)))
        self.assertEqual(paper.parts, ((0, (1,)), 5))

    def test_a_paper_is_true(self):
        for row, _ in itertools.islice(few_rows(), 9):
            self.assertIs(bool(listed(row, 12)), True)
            self.assertEqual(listed(row, 12).word, "listed")
            self.assertEqual(listed(row, 12).parts, (listed(row, 12).names, listed(row, 12).table))


if __name__ == "__main__":
    unittest.main()
