"""backwardrow.sped: what cell 0 stands for at each tick, against own running of the inner row; how great worths are."""

import itertools
import random
import unittest

from backwardrow.eaters import Eater
from backwardrow.fed import Fed
from backwardrow.folds import TwoWays
from backwardrow.joined import Both, Either, Not, Renamed
from backwardrow.mirrors import Mirror
from backwardrow.rows import Row
from backwardrow.runs import due_tick, said, seat, strip, told, worth_at
from backwardrow.slants import OneWay
from backwardrow.sped import Sped, cut_tick, inner_tick
from backwardrow.spoken import row_of
from backwardrow.tables import Table
from helpers import HUGE, NO_INTEGERS, ODD, error_of
from made import evens_parts, keys_of, only_small, strip_by_hand, strip_of, table_by_chance, turning_parts


def lively(seed, worths, letters=None):
    """A table of two ways of so many worths with a rule for nearly each key, so that all goes on changing."""
    chance = random.Random(seed)
    letters = letters or chance.randint(1, min(worths, 3))
    rules = [(key, chance.randrange(worths)) for key in keys_of(2, worths) if chance.random() < 0.9]
    return Table(2, letters, worths, rules, [worth for worth in range(worths) if chance.random() < 0.4])


def there_and_back():
    """A table in which a 2 runs from the first cell to the last one, and a 3 back."""
    rules = {(None, 0, 0): 2, (2, 0, None): 3, (0, 0, None): 0, (2, 0, 0): 2, (2, 0, 3): 3, (2, 2, 3): 3, (None, 2, 3): 3}
    return Table(2, 2, 4, rules, [3])


def counting():
    """A table whose cell 0 goes round its worths, and is set back by what comes from afar."""
    rules = {(left, own, right): (own + 1) % 9 if right in (None, own) else (own + right + (left or 0)) % 10
             for left, own, right in keys_of(2, 10)}
    return Table(2, 3, 10, rules, [0, 4, 7])


def tick_by_hand(many, by, tick):
    """The tick of the inner row for a tick, counted one by one."""
    found = 0
    for passed in range(1, tick + 1):
        found += 1 if passed < many else by
    return found


class Stands(unittest.TestCase):
    def check(self, inner, by, word, further):
        """Hold cell 0 at each tick against the inner row's cell 0, by own running."""
        row = Sped(inner, by)
        many = len(word)
        ticks = many - 1 + further
        strip_inner = strip_by_hand if isinstance(inner, Table) else strip_of
        wanted = [line[0] for line in strip_inner(inner, word, tick_by_hand(many, by, ticks))]
        for tick, line in enumerate(strip(row, word, ticks)):
            worth = wanted[tick_by_hand(many, by, tick)]
            self.assertEqual(row.inner(line[0]), worth, (by, word, tick))
            self.assertIs(row.says(line[0]), bool(inner.says(worth)))
            for other in line:
                self.assertIn(row.says(other), (True, False))
        self.assertEqual(row.inner(worth=worth_at(row, word, 0, ticks)), wanted[-1])
        self.assertIs(said(row, word, ticks), bool(inner.says(wanted[-1])))
        self.assertIs(told(row, word), told(inner, word))

    def test_there_and_back(self):
        for by in (2, 3, 4):
            for many in range(1, 41):
                self.check(there_and_back(), by, [0] * many, many + 3)
        word = [0] * 30
        self.assertEqual([tick for tick in range(80) if said(there_and_back(), word, tick)][:1], [59])
        for by, first in ((2, 44), (3, 39), (4, 37)):
            self.assertEqual([tick for tick in range(60) if said(Sped(there_and_back(), by), word, tick)][:1], [first])

    def test_each_length(self):
        chance = random.Random(1)
        for by in (2, 3, 4):
            for many in range(1, 41):
                for inner in (counting(), lively(many, 4), lively(many + 100, 10)):
                    self.check(inner, by, [chance.randrange(inner.letters) for _ in range(many)], 12)

    def test_all_short_words(self):
        for seed, worths in ((3, 2), (4, 3), (5, 5)):
            inner = lively(seed, worths, 2)
            for by in (2, 3, 4):
                for many in range(1, 7):
                    for word in itertools.product(range(2), repeat=many):
                        self.check(inner, by, list(word), 6)

    def test_packs_that_are_just_full_and_nearly(self):
        chance = random.Random(2)
        for by in (2, 3, 4):
            for packs in (1, 2, 3, 5):
                for many in (by * packs - 1, by * packs, by * packs + 1):
                    for seed in range(6):
                        inner = lively(seed, chance.randint(2, 10))
                        self.check(inner, by, [chance.randrange(inner.letters) for _ in range(many)], 9)

    def test_few_worths(self):
        chance = random.Random(3)
        for seed in range(40):
            inner = table_by_chance(seed, 2)
            word = [chance.randrange(inner.letters) for _ in range(chance.randint(1, 30))]
            self.check(inner, 2 + seed % 3, word, 10)
        for inner in (Table(2, 1, 1, [], []), Table(2, 1, 1, [], [0]), Table(2, 6, 12, [], [3])):
            self.check(inner, 3, [0] * 11, 5)

    def test_far_beyond_the_number_of_letters(self):
        chance = random.Random(4)
        for many in (1, 2, 3, 4, 5, 9, 16, 17):
            for by in (2, 3, 4):
                inner = lively(many, 8, 3)
                self.check(inner, by, [chance.randrange(3) for _ in range(many)], 100)

    def test_made_rows(self):
        chance = random.Random(5)
        some, other = lively(1, 6, 2), counting()
        rows = [
            Not(some), Both(some, lively(2, 3, 2)), Either(Not(some), lively(7, 9, 2)), Renamed(other, [2, 0, 1, 1]), Fed(Eater(*evens_parts())),
            Fed(Eater(*turning_parts())), Mirror(3), row_of(("then", (0, 1, 0)), 2), row_of(("both", ("many", 0, 1), ("not", ("mirror",))), 2),
            TwoWays(OneWay(some)), TwoWays(table_by_chance(8, 1)), Not(Renamed(Either(some, some), [1, 0])),
        ]
        for inner in rows:
            for by in (2, 3, 4):
                for many in (1, 2, 3, 5, 8, 13):
                    self.check(inner, by, [chance.randrange(inner.letters) for _ in range(many)], 6)

    def test_rows_made_of_sped_ones(self):
        chance = random.Random(6)
        for seed in range(4):
            inner = lively(seed, 5, 2)
            for by in (2, 3, 4):
                row = Sped(inner, by)
                for many in (1, 2, 3, 4, 6, 7):
                    word = [chance.randrange(2) for _ in range(many)]
                    wanted = told(inner, word)
                    for made in (OneWay(row), TwoWays(OneWay(row)), Not(Not(row)), Both(row, row), Either(row, inner), Renamed(row, [0, 1])):
                        self.assertIs(told(made, word), wanted)
                    for tick in (0, many - 1, many, many + 3):
                        self.assertIs(said(Not(row), word, tick), not said(row, word, tick))
                        self.assertIs(said(Renamed(row, [1, 0]), [1 - letter for letter in word], tick), said(row, word, tick))

    def test_sped_again(self):
        chance = random.Random(7)
        for seed in range(12):
            inner = lively(seed, 2 + seed % 9)
            once, again, four = Sped(inner, 2), Sped(Sped(inner, 2), 2), Sped(inner, 4)
            for many in (1, 2, 3, 4, 5, 7, 8, 9, 12, 21):
                word = [chance.randrange(inner.letters) for _ in range(many)]
                lines, wanted = strip(again, word, many + 9), strip(four, word, many + 9)
                for line, by_four in zip(lines, wanted):
                    self.assertEqual(once.inner(again.inner(line[0])), four.inner(by_four[0]))
                    self.assertIs(again.says(line[0]), four.says(by_four[0]))


class Worths(unittest.TestCase):
    def test_no_longer_in_longer_words(self):
        chance = random.Random(8)
        for seed in range(24):
            inner = (lively(seed, 2 + seed % 9), counting(), there_and_back())[seed % 3 if seed < 9 else 0]
            for by in (2, 3, 4):
                row = Sped(inner, by)
                word = [chance.randrange(inner.letters) for _ in range(40)] if seed % 4 else [0] * 40
                long = max(len(repr(worth)) for line in strip(row, word, 44) for worth in line)
                short = max(len(repr(worth)) for line in strip(row, word[:16], 20) for worth in line)
                self.assertLessEqual(long, short + 6)

    def test_kinds_of_worths(self):
        for inner in (counting(), Both(counting(), lively(3, 5, 3)), Sped(counting(), 2)):
            for by in (2, 3, 4):
                for line in strip(Sped(inner, by), [0, 1, 2, 2, 1, 0, 0, 1, 1, 2, 0], 30):
                    for worth in line:
                        self.assertTrue(only_small(worth), worth)

    def test_finitely_many(self):
        inner = there_and_back()
        for by in (2, 3, 4):
            found = set()
            for many in range(1, 30):
                found |= {worth for line in strip(Sped(inner, by), [0] * many, 2 * many + 9) for worth in line}
            before = len(found)
            for many in (44, 57, 80):
                found |= {worth for line in strip(Sped(inner, by), [0] * many, 2 * many + 9) for worth in line}
            self.assertEqual(len(found), before)

    def test_asked_again_in_any_order(self):
        chance = random.Random(9)
        for inner in (counting(), Fed(Eater(*turning_parts())), Sped(counting(), 2)):
            for by in (2, 3, 4):
                one, other = Sped(inner, by), Sped(inner, by)
                words = [[chance.randrange(3) for _ in range(many)] for many in (1, 2, 3, 4, 5, 9, 13)]
                asked = [(word, cell, tick) for word in words for cell in range(len(word)) for tick in (0, 1, len(word) - 1, len(word), 20)]
                found = [worth_at(one, *told_so) for told_so in asked]
                order = list(range(len(asked)))
                chance.shuffle(order)
                for at in order[:150]:
                    self.assertEqual(worth_at(other, *asked[at]), found[at])
                    self.assertEqual(worth_at(one, *asked[at]), found[at])
                    self.assertIs(one.says(found[at]), other.says(found[at]))

    def test_any_worths_beside_one_another(self):
        chance = random.Random(10)
        for inner in (counting(), there_and_back(), Mirror(2), Fed(Eater(*turning_parts())), Both(counting(), Mirror(3)), Sped(counting(), 3), TwoWays(OneWay(counting()))):
            for by in (2, 3, 4):
                row = Sped(inner, by)
                found = []
                for many in (1, 2, 4, 7, 10):
                    found += [worth for line in strip(row, [chance.randrange(inner.letters) for _ in range(many)], 16) for worth in line]
                for _ in range(1200):
                    left, own, right = (chance.choice(found) for _ in range(3))
                    left = None if chance.random() < 0.2 else left
                    right = None if chance.random() < 0.2 else right
                    worth = row.next(left, own, right)
                    self.assertTrue(only_small(worth), worth)
                    self.assertIn(row.says(worth), (True, False))
                    self.assertEqual(row.next(left, own, right), worth)
                    found.append(worth)


class Ticks(unittest.TestCase):
    def test_against_own_counting(self):
        for many in (1, 2, 3, 7, 40):
            for by in (2, 3, 4):
                row_ticks = [tick_by_hand(many, by, tick) for tick in range(150)]
                for tick in range(120):
                    self.assertEqual(inner_tick(many, by, tick), row_ticks[tick])
                    least = min(at for at, stands in enumerate(row_ticks) if stands >= tick)
                    self.assertEqual(cut_tick(many=many, by=by, tick=tick), least)

    def test_great_ticks(self):
        self.assertEqual(inner_tick(200, 4, 10 ** 30), 199 + 4 * (10 ** 30 - 199))
        self.assertEqual(cut_tick(200, 3, 199 + 3 * 10 ** 29), 199 + 10 ** 29)
        self.assertEqual(cut_tick(200, 3, 200 + 3 * 10 ** 29), 200 + 10 ** 29)

    def test_refused(self):
        for call in (inner_tick, cut_tick):
            for value in (*NO_INTEGERS, 0, 201, -1, HUGE, -HUGE):
                self.assertEqual(error_of(call, value, 2, 3), ("BadNumber", "many"), value)
                self.assertEqual(error_of(call, value, 5, -1), ("BadNumber", "many"), value)
            for value in (*NO_INTEGERS, 0, 1, 5, -2, HUGE, -HUGE):
                self.assertEqual(error_of(call, 3, value, 3), ("BadNumber", "by"), value)
                self.assertEqual(error_of(call, 3, value, None), ("BadNumber", "by"), value)
            for value in (*NO_INTEGERS, -1, -HUGE):
                self.assertEqual(error_of(call, 200, 4, value), ("BadNumber", "tick"), value)
        self.assertEqual(inner_tick(1, 2, 0), 0)
        self.assertEqual(cut_tick(1, 2, 0), 0)


class Made(unittest.TestCase):
    def test_attributes(self):
        for letters in range(1, 7):
            inner = Table(2, letters, 6, [], [1])
            for by in (2, 3, 4):
                row = Sped(row=inner, by=by)
                self.assertIsInstance(row, Row)
                self.assertEqual((row.letters, row.ways, row.by, seat(row, 9), due_tick(row, 9)), (letters, 2, by, 0, 8))
                self.assertIs(row.row == inner, True)
                for letter in range(letters):
                    self.assertEqual(row.inner(row.begin(letter=letter)), letter)
                    self.assertIs(row.says(row.begin(letter)), letter == 1)

    def test_refused(self):
        two, one = counting(), table_by_chance(3, 1)
        for value in (None, 1, True, "row", [], (), {}, ODD, Table, evens_parts(), Eater(*evens_parts())):
            self.assertEqual(error_of(Sped, value, 2), ("BadRow", "row"))
            self.assertEqual(error_of(Sped, value, 7), ("BadRow", "row"))
        for value in (*NO_INTEGERS, 0, 1, 5, -2, HUGE, -HUGE):
            self.assertEqual(error_of(Sped, two, value), ("BadNumber", "by"), value)
            self.assertEqual(error_of(Sped, one, value), ("BadNumber", "by"), value)
        for value in (one, OneWay(two), Not(one), TwoWays(one)):
            wanted = ("none", Sped(value, 3)) if value.ways == 2 else ("Misfit", "ways")
            self.assertEqual(error_of(Sped, value, 3), wanted)

    def test_equal(self):
        one, again, other = counting(), counting(), there_and_back()
        for by, speed in itertools.product((2, 3, 4), repeat=2):
            self.assertIs(Sped(one, by) == Sped(again, speed), by == speed)
            self.assertIs(Sped(one, by) != Sped(again, speed), by != speed)
            self.assertIs(Sped(one, by) == Sped(other, speed), False)
        self.assertIs(Sped(Sped(one, 2), 2) == Sped(Sped(again, 2), 2), True)
        for value in (one, None, 2, "x", (one, 2), [], object(), Not(Sped(one, 2)), Sped(Sped(one, 2), 2), OneWay(Sped(one, 2))):
            self.assertIs(Sped(one, 2) == value, False)
            self.assertIs(value == Sped(one, 2), False)


if __name__ == "__main__":
    unittest.main()
