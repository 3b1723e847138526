"""backwardrow.pictures: pictures, listings and slanted listings against own strips, sign by sign, and what is refused."""

import random
import unittest

from backwardrow.flashes import squares
from backwardrow.joined import Not
from backwardrow.mirrors import Mirror
from backwardrow.pictures import listing, picture, slanted
from backwardrow.runs import strip
from backwardrow.sayings import words_so
from backwardrow.slants import OneWay
from backwardrow.sped import Sped
from backwardrow.spoken import row_of
from backwardrow.tables import Table
from helpers import HUGE, NO_INTEGERS, NO_LISTS, ODD, error_of
from made import evens_parts, keys_of, strip_by_hand, strip_of, table_by_chance

SIGNS = {**{worth: str(worth) for worth in range(10)}, 10: "a", 11: "b"}


def great(seed, worths, ways=2):
    """A table of so many worths, each of which is come to."""
    chance = random.Random(seed)
    rules = [(key, chance.randrange(worths)) for key in keys_of(ways, worths)]
    return Table(ways, 6, worths, rules, chance.sample(range(worths), worths // 2))


class Pictures(unittest.TestCase):
    def check(self, row, word, ticks):
        lines = strip_of(row, word, ticks)
        found = picture(row, word, ticks)
        self.assertIsInstance(found, tuple)
        self.assertEqual(len(found), ticks + 1)
        for line, signs in zip(lines, found):
            self.assertEqual(len(signs), len(word))
            for worth, sign in zip(line, signs):
                self.assertEqual(sign, "#" if row.says(worth) else ".")

    def test_rows_of_all_kinds(self):
        chance = random.Random(1)
        rows = [table_by_chance(seed) for seed in range(20)] + [great(seed, worths, ways) for seed, worths, ways in ((1, 10, 2), (2, 11, 1), (3, 12, 2))]
        rows += [Mirror(2), squares(), OneWay(Mirror(2)), Not(squares()), Sped(great(4, 9), 3), row_of(("then", (0, 1, 0)), 2)]
        for row in rows:
            for many in (1, 2, 7, 20):
                self.check(row, [chance.randrange(row.letters) for _ in range(many)], chance.randint(0, 15))

    def test_by_names_and_at_the_bounds(self):
        some = Table(2, 2, 2, {(None, 0, 1): 1, (0, 0, 1): 1, (1, 0, 1): 1}, [1])
        self.assertEqual(picture(row=some, word=(0, 0, 1), ticks=0), ("..#",))
        self.assertEqual(len(picture(some, [1] * 200, 0)[0]), 200)
        self.assertEqual(len(picture(some, [1], 1000)), 1001)

    def test_refused(self):
        row = table_by_chance(1)
        for value in (None, 1, True, "row", [], (), {}, ODD, Table, evens_parts()):
            self.assertEqual(error_of(picture, value, [0], 1), ("BadRow", "row"))
            self.assertEqual(error_of(picture, value, None, None), ("BadRow", "row"))
        for value in (*NO_LISTS, [], (), [6], [-1], [True], [None], [0] * 201):
            self.assertEqual(error_of(picture, row, value, 1), ("BadWord", "word"), value)
            self.assertEqual(error_of(picture, row, value, -1), ("BadWord", "word"), value)
        for value in (*NO_INTEGERS, -1, 1001, HUGE, -HUGE):
            self.assertEqual(error_of(picture, row, [0], value), ("BadNumber", "ticks"), value)


class Listings(unittest.TestCase):
    def test_against_own_strips(self):
        chance = random.Random(2)
        tables = [table_by_chance(seed) for seed in range(30)] + [great(worths + ways, worths, ways) for worths in (6, 9, 10, 11, 12) for ways in (1, 2)]
        seen = ""
        for table in tables:
            for many in (1, 3, 12, 40):
                word = [chance.randrange(table.letters) for _ in range(many)]
                found = listing(table=table, word=word, ticks=17)
                self.assertEqual(found, tuple("".join(SIGNS[worth] for worth in line) for line in strip_by_hand(table, word, 17)))
                seen += "".join(found)
        self.assertEqual("".join(sorted(set(seen))), "0123456789ab")

    def test_refused(self):
        table = great(1, 12)
        for value in (None, 1, True, "table", [], (), {}, ODD, Table, Mirror(2), Not(table), OneWay(table), str(table)):
            self.assertEqual(error_of(listing, value, [0], 1), ("BadTable", "table"))
            self.assertEqual(error_of(listing, value, None, None), ("BadTable", "table"))
        for value in (*NO_LISTS, [], (), [6], [-1], [True], [None], [0] * 201):
            self.assertEqual(error_of(listing, table, value, 1), ("BadWord", "word"), value)
            self.assertEqual(error_of(listing, table, value, 1001), ("BadWord", "word"), value)
        for value in (*NO_INTEGERS, -1, 1001, HUGE, -HUGE):
            self.assertEqual(error_of(listing, table, [0], value), ("BadNumber", "ticks"), value)
        self.assertEqual(error_of(listing, table_by_chance(0), [5], 1), ("BadWord", "word"))


class Slanted(unittest.TestCase):
    def test_against_own_strips(self):
        chance = random.Random(3)
        tables = [table_by_chance(seed, 2) for seed in range(30)] + [great(worths, worths) for worths in (9, 10, 11, 12)]
        for table in tables:
            for many in (1, 2, 3, 8, 21):
                word = [chance.randrange(table.letters) for _ in range(many)]
                signs = [["."] * many for _ in range(2 * many)]
                for tick, line in enumerate(strip_by_hand(table, word, many)):
                    for cell, worth in enumerate(line):
                        if cell + tick < many:
                            signs[2 * tick + cell + 1][cell + tick] = SIGNS[worth]
                self.assertEqual(slanted(table, word), tuple("".join(line) for line in signs))

    def test_as_the_one_way_row_has_it(self):
        table = great(5, 12)
        word = (0, 5, 3, 3, 1, 2, 4)
        found = slanted(table=table, word=word)
        for tick, line in enumerate(strip(OneWay(table), word, 13)):
            for cell, worth in enumerate(line):
                now = worth[1] if worth[0] == 1 else None
                self.assertEqual(found[tick][cell], "." if now is None else SIGNS[now])

    def test_refused(self):
        two, one = great(1, 12), great(2, 7, 1)
        for value in (None, 1, True, "table", [], (), {}, ODD, Table, Mirror(2), Not(two), OneWay(two), str(two)):
            self.assertEqual(error_of(slanted, value, [0]), ("BadTable", "table"))
            self.assertEqual(error_of(slanted, value, None), ("BadTable", "table"))
        for value in (*NO_LISTS, [], (), [6], [-1], [True], [None], [0] * 201):
            self.assertEqual(error_of(slanted, two, value), ("BadWord", "word"), value)
            self.assertEqual(error_of(slanted, one, value), ("BadWord", "word"), value)
        self.assertEqual(error_of(slanted, one, [0, 1]), ("Misfit", "ways"))

    def test_words_of_all_kinds(self):
        table = great(6, 10)
        for word in words_so(("mirror",), 2, 4):
            self.assertEqual(slanted(table, list(word)), slanted(table, word))


if __name__ == "__main__":
    unittest.main()
