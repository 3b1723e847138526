"""backwardrow.rows: the base, and what every class of rows has."""

import itertools
import unittest

from backwardrow.eaters import Eater
from backwardrow.fed import Fed
from backwardrow.folds import TwoWays
from backwardrow.joined import Both, Either, Not, Renamed
from backwardrow.mirrors import Mirror
from backwardrow.rows import Row
from backwardrow.slants import OneWay
from backwardrow.tables import Table

ROWS = (Table, OneWay, TwoWays, Not, Both, Either, Renamed, Fed, Mirror)


def rows_over(ways, letters):
    """Rows of every class but tables, and the ways that they have, made of a table where they are made of rows."""
    row = Table(ways, letters, 6, [], [])
    found = [(OneWay(row), 1)] if ways == 2 else [(TwoWays(row), 2)]
    found += [(Mirror(letters), 2), (Fed(Eater(letters, 1, 1, {(0, 0, (None,)): (0, [("push", 1)])}, [0])), 2)]
    return found + [(made, ways) for made in (Not(row), Both(row, row), Either(row, row), Renamed(row, [0] * letters))]


class Rows(unittest.TestCase):
    def test_classes_lie_below_row(self):
        for made in ROWS:
            self.assertTrue(issubclass(made, Row))
        for one, other in itertools.permutations(ROWS, 2):
            self.assertFalse(issubclass(one, other))

    def test_each_class_tells_the_methods_itself(self):
        for made in (Row, *ROWS):
            for name in ("begin", "next", "says"):
                self.assertIn(name, vars(made), made)

    def test_methods_by_name(self):
        for ways in (1, 2):
            table = Table(ways, 2, 3, [((None, 0, 1)[:ways + 1], 2)], [2])
            for row in (table, *[row for row, _ in rows_over(ways, 2)], Both(table, Not(table))):
                worths = (row.begin(letter=0), row.begin(letter=1))
                self.assertEqual(worths, (row.begin(0), row.begin(1)))
                for left, own, right in itertools.product((None, *worths), worths, (None, *worths)):
                    self.assertEqual(row.next(right=right, own=own, left=left), row.next(left, own, right))
                    self.assertIs(row.says(worth=own), row.says(own))
                    self.assertIsInstance(row.says(own), bool)

    def test_attributes(self):
        for ways in (1, 2):
            for letters in range(1, 7):
                row = Table(ways, letters, 12, [], [])
                self.assertEqual((row.letters, row.ways), (letters, ways))
                for made, wanted in rows_over(ways, letters):
                    self.assertEqual((made.letters, made.ways), (letters, wanted))

    def test_the_base_alone_tells_nothing(self):
        row = Row()
        for call in (lambda: row.begin(0), lambda: row.next(None, 0, None), lambda: row.says(0)):
            with self.assertRaises(NotImplementedError):
                call()


if __name__ == "__main__":
    unittest.main()
