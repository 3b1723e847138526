"""backwardrow.rows: the base, and what every class of rows has."""

import unittest

from backwardrow.rows import Row
from backwardrow.slants import OneWay
from backwardrow.tables import Table

ROWS = (Table, OneWay)


class Rows(unittest.TestCase):
    def test_classes_lie_below_row(self):
        for made in ROWS:
            self.assertTrue(issubclass(made, Row))
        self.assertFalse(issubclass(Table, OneWay) or issubclass(OneWay, Table))

    def test_each_class_tells_the_methods_itself(self):
        for made in (Row, *ROWS):
            for name in ("begin", "next", "says"):
                self.assertIn(name, vars(made), made)

    def test_methods_by_name(self):
        table = Table(2, 2, 3, [((None, 0, 1), 2)], [2])
        for row, worths in ((table, (0, 1)), (OneWay(table), ((0, 0), (0, 1)))):
            self.assertEqual(row.begin(letter=1), worths[1])
            self.assertEqual(row.next(right=worths[1], own=worths[0], left=None), row.next(None, *worths))
            self.assertEqual(row.says(worth=worths[0]), False)

    def test_attributes(self):
        for ways in (1, 2):
            for letters in range(1, 7):
                row = Table(ways, letters, 12, [], [])
                self.assertEqual((row.letters, row.ways), (letters, ways))
                if ways == 2:
                    self.assertEqual((OneWay(row).letters, OneWay(row).ways), (letters, 1))

    def test_the_base_alone_tells_nothing(self):
        row = Row()
        for call in (lambda: row.begin(0), lambda: row.next(None, 0, None), lambda: row.says(0)):
            with self.assertRaises(NotImplementedError):
                call()


if __name__ == "__main__":
    unittest.main()
