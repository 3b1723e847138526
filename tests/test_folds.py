"""backwardrow.folds: TwoWays cell by cell and strip by strip, what it tells of words, fold and unfold."""

import itertools
import random
import unittest

from backwardrow.folds import TwoWays, fold, unfold
from backwardrow.joined import Both, Either, Not, Renamed
from backwardrow.runs import due_tick, said, seat, strip, told, told_words
from backwardrow.slants import OneWay
from backwardrow.tables import Table
from helpers import HUGE, NO_INTEGERS, error_of
from made import Shows, keys_of, strip_by_hand, strip_of, table_by_chance, told_by_hand, told_of, words_over

BAD_PLACES = (-1, -HUGE, *NO_INTEGERS)
BAD_ROWS = (*NO_INTEGERS, 0, 1, "row", Table, TwoWays, {"ways": 1, "letters": 2})


def one_ways(many, worths=None):
    """Tables of one way by chance, where told those of so many worths."""
    found = [table_by_chance(seed, ways=1) for seed in range(many)]
    return [table for table in found if worths is None or table.worths in worths]


def two_by_hand(table, first, second, third):
    """What the third becomes in two ticks, by the rules of a table of one way."""
    if () in (first, second, third):
        return ()
    if third is None:
        return None
    rules = dict(table.rules)
    beside = None if second is None else rules.get((first, second), second)
    once = rules.get((second, third), third)
    return rules.get((beside, once), once)


def next_by_hand(table, left, own, right):
    """The next pair of a cell, as [6] tells it."""
    if left is None and right is None:
        return (two_by_hand(table, own[1], own[0], ()), two_by_hand(table, None, own[1], own[0]))
    if left is None:
        return (two_by_hand(table, own[1], own[0], right[0]), two_by_hand(table, right[1], own[1], own[0]))
    if right is None:
        return (two_by_hand(table, left[0], own[0], ()), two_by_hand(table, None, own[1], left[1]))
    return (two_by_hand(table, left[0], own[0], right[0]), two_by_hand(table, right[1], own[1], left[1]))


class Cells(unittest.TestCase):
    def test_begin(self):
        for row in (*one_ways(20), Shows(6, 1), OneWay(Shows(2, 2))):
            for letter in range(row.letters):
                got = TwoWays(row).begin(letter)
                self.assertEqual(got, (row.begin(letter), None))
                self.assertIsInstance(got, tuple)
        self.assertEqual(TwoWays(Shows(2, 1)).begin(letter=1), (("at", 1), None))

    def test_any_three_beside_one_another(self):
        for table in one_ways(40, worths=(2,))[:4]:
            both = TwoWays(table)
            pairs = list(itertools.product((0, 1, (), None), repeat=2))
            for left in [None, *pairs]:
                for own in pairs:
                    for right in [None, *pairs]:
                        got = both.next(left, own, right)
                        self.assertEqual(got, next_by_hand(table, left, own, right), (left, own, right))
                        self.assertIsInstance(got, tuple)

    def test_any_three_of_more_worths(self):
        for table in one_ways(60, worths=(3, 4, 5))[:5]:
            both = TwoWays(table)
            pairs = list(itertools.product((*range(table.worths), (), None), repeat=2))
            for at, (left, own, right) in enumerate(itertools.product([None, *pairs], pairs, [None, *pairs])):
                if at % 7 == 0:
                    self.assertEqual(both.next(left, own, right), next_by_hand(table, left, own, right), (left, own, right))

    def test_by_hand(self):
        both = TwoWays(Table(1, 2, 4, {(None, 0): 1, (None, 1): 2, (1, 0): 3, (2, 3): 0, (0, 1): 3, (3, 0): 2}, [2]))
        for left, own, right, wanted in (
            (None, (0, None), None, ((), 2)),
            (None, (0, None), (0, None), (3, 2)),
            ((1, None), (0, None), (1, None), (3, None)),
            ((1, None), (0, None), None, ((), None)),
            (None, ((), 1), None, ((), ())),
            (None, (0, 1), (0, 3), (2, 3)),
            ((0, 3), (1, 0), (0, 2), (3, 3)),
            ((0, 1), (2, None), (3, None), (0, 2)),
        ):
            self.assertEqual(both.next(left, own, right), wanted, (left, own, right))
            self.assertEqual(both.next(right=right, own=own, left=left), wanted)

    def test_a_border_is_asked_as_a_border(self):
        row = Shows(2, 1)
        both = TwoWays(row)
        first, second = row.begin(0), row.begin(1)
        once, twice = row.next(None, first, None), row.next(None, row.next(None, first, None), None)
        self.assertEqual(both.next(None, (first, None), (second, None))[1], twice)
        self.assertEqual(both.next(None, (first, None), (second, None))[0], row.next(once, row.next(first, second, None), None))

    def test_lists_for_pairs(self):
        both = TwoWays(one_ways(9, worths=(2, 3))[0])
        for own in ((0, None), (1, 0), (1, 1)):
            for side in (None, (1, None), (0, 1), ((), 0)):
                pair = None if side is None else list(side)
                self.assertEqual(repr(both.next(pair, list(own), pair)), repr(both.next(side, own, side)))
            self.assertIs(both.says(list(own)), both.says(own))

    def test_says(self):
        for table in one_ways(60):
            both = TwoWays(table)
            rules = dict(table.rules)
            for folded in (None, *range(table.worths), ()):
                self.assertIs(both.says(((), folded)), False)
            for own in range(table.worths):
                for folded in (None, *range(table.worths)):
                    wanted = rules.get((folded, own), own) in table.yes
                    self.assertIs(both.says((own, folded)), wanted)
                    self.assertIs(both.says(worth=(own, folded)), wanted)

    def test_says_of_other_rows(self):
        for falls in (range(0, 997, 2), range(500)):
            row = Shows(2, 1, falls)
            for own, folded in ((row.begin(0), None), (row.begin(1), row.begin(0)), (0, 1), (1, 0)):
                wanted = row.says(row.next(folded, own, None))
                self.assertIs(TwoWays(row).says((own, folded)), wanted)

    def test_says_true_or_false(self):
        row = Shows(2, 1)
        row.says = lambda worth: worth
        self.assertIs(TwoWays(row).says((("at", 1), None)), True)
        row.says = lambda worth: ()
        self.assertIs(TwoWays(row).says((("at", 1), None)), False)

    def test_nothing_is_raised_for_worths_that_were_told(self):
        chance = random.Random(5)
        two = table_by_chance(4, 2)
        for table in one_ways(12, worths=(2, 3)):
            late = Renamed(OneWay(two), [0] * table.letters)
            for inner in (table, OneWay(TwoWays(table)), OneWay(two), Both(table, Not(late)), Either(late, OneWay(TwoWays(late)))):
                row = TwoWays(inner)
                found = [worth for line in strip_of(row, [0, row.letters - 1, 0], 6) for worth in line]
                for _ in range(300):
                    left, own, right = (chance.choice(found) for _ in range(3))
                    left = None if chance.random() < 0.2 else left
                    right = None if chance.random() < 0.2 else right
                    worth = row.next(left, own, right)
                    self.assertIn(row.says(worth), (True, False))
                    self.assertEqual(row.next(left, own, right), worth)
                    if worth not in found:
                        found.append(worth)
                # So the inner row is never asked for a cell beside (): who has lost its folded one has no own.
                self.assertFalse([own for own, folded in found if folded == () and own != ()])


class Strips(unittest.TestCase):
    def test_own_and_folded_up_to_the_number_of_letters(self):
        for table in one_ways(60):
            for word in words_over(table.letters, 5)[::3]:
                many = len(word)
                inner = strip_by_hand(table, word, 2 * many)
                lines = strip(TwoWays(table), word, many)
                for tick in range(many + 1):
                    for cell in range(many):
                        own = inner[2 * tick][cell + tick] if cell + tick < many else ()
                        folded = inner[2 * tick][tick - cell - 1] if tick > cell else None
                        self.assertEqual(lines[tick][cell], (own, folded), (word, tick, cell))

    def test_own_and_folded_of_other_rows(self):
        for row in (Shows(2, 1), OneWay(Shows(2, 2)), OneWay(TwoWays(Shows(2, 1)))):
            word = [0, 1, 1, 0, 1]
            inner = strip_of(row, word, 10)
            lines = strip(TwoWays(row), word, 5)
            for tick in range(6):
                for cell in range(5):
                    own = inner[2 * tick][cell + tick] if cell + tick < 5 else ()
                    folded = inner[2 * tick][tick - cell - 1] if tick > cell else None
                    self.assertEqual(lines[tick][cell], (own, folded))

    def test_behind_the_number_of_letters_as_the_rules_tell(self):
        for table in one_ways(12):
            word = [0, table.letters - 1, 0]
            lines = [[(letter, None) for letter in word]]
            for tick in range(9):
                near = [None, *lines[tick], None]
                lines.append([next_by_hand(table, *near[cell:cell + 3]) for cell in range(3)])
            self.assertEqual(strip(TwoWays(table), word, 9), tuple(tuple(line) for line in lines))

    def test_beginnings_are_told_at_their_ticks(self):
        for table in one_ways(60):
            both = TwoWays(table)
            for word in words_over(table.letters, 5)[-30:]:
                for tick in range(len(word)):
                    self.assertIs(said(both, word, tick), told_by_hand(table, word[:tick + 1]), (word, tick))

    def test_no_behind_the_number_of_letters(self):
        always = Table(1, 2, 3, {(None, 0): 2, (0, 1): 2}, [0, 1, 2])
        for row in (always, OneWay(Table(2, 2, 2, [], [0, 1])), *one_ways(20)):
            both = TwoWays(row)
            for word in ([0], [0, row.letters - 1], [row.letters - 1, 0, 0, 0], [0] * 7):
                for tick in (*range(len(word), 2 * len(word) + 3), 40):
                    self.assertIs(said(both, word, tick), False)
        self.assertIs(said(TwoWays(always), [0, 1, 0], 2), True)

    def test_asked_again(self):
        rows = [TwoWays(table) for table in one_ways(9)]
        words = [[0], [0, 0, 0], [0, 0]]
        found = [[strip(row, word, 7) for word in words] for row in rows]
        for row, lines in reversed(list(zip(rows, found))):
            self.assertEqual([strip(row, word, 7) for word in reversed(words)], lines[::-1])
        for table, lines in zip(one_ways(9), found):
            self.assertEqual([strip(TwoWays(table), word, 7) for word in words], lines)


class Tells(unittest.TestCase):
    def test_the_same_words(self):
        for table in one_ways(60):
            both = TwoWays(table)
            for many in range(1, 6):
                words = itertools.product(range(table.letters), repeat=many)
                wanted = tuple(word for word in words if told_by_hand(table, word))
                self.assertEqual(told_words(table, many), wanted)
                self.assertEqual(told_words(both, many), wanted)
                if many < 5:
                    self.assertEqual(told_words(OneWay(both), many), wanted)
                    self.assertEqual(told_words(TwoWays(OneWay(both)), many), wanted)

    def test_the_same_words_of_rows_of_two_ways(self):
        for seed in range(30):
            table = table_by_chance(seed, ways=2)
            for many in range(1, 5):
                words = itertools.product(range(table.letters), repeat=many)
                wanted = tuple(word for word in words if told_by_hand(table, word))
                self.assertEqual(told_words(TwoWays(OneWay(table)), many), wanted)
                self.assertEqual(told_words(OneWay(TwoWays(OneWay(table))), many), wanted)

    def test_the_same_of_other_rows(self):
        for falls in (range(0, 997, 2), range(0, 997, 3), range(500)):
            one, two = Shows(2, 1, falls), Shows(2, 2, falls)
            words = words_over(2, 6)
            found = [told_of(one, word) for word in words]
            self.assertEqual([told(TwoWays(one), word) for word in words], found)
            self.assertEqual([told(OneWay(TwoWays(one)), word) for word in words], found)
            self.assertEqual(len(set(found)), 2)
            self.assertEqual([told(TwoWays(OneWay(two)), word) for word in words], [told_of(two, word) for word in words])

    def test_of_a_row_by_slant_at_its_due_tick(self):
        row = Shows(2, 2)
        word = [0, 1, 1, 0, 1, 0]
        for tick in range(6):
            wanted = strip_of(row, word[:tick + 1], tick)[-1][0]
            own, folded = strip(TwoWays(OneWay(row)), word, tick)[tick][0]
            self.assertEqual(OneWay(row).next(folded, own, None)[1], wanted)

    def test_long_words(self):
        goes = Table(1, 2, 2, {(1, 0): 1}, [1])
        for row in (TwoWays(goes), TwoWays(OneWay(TwoWays(goes)))):
            for many in (40, 120):
                self.assertIs(told(row, [1] + [0] * (many - 1)), True)
                self.assertIs(told(row, [0] * many), False)

    def test_deeply_made_rows(self):
        for table in (table_by_chance(6, 1), table_by_chance(6, 2)):
            word = [(at * at // 3) % table.letters for at in range(40)]
            row, wanted = table, told_by_hand(table, word)
            for _ in range(8):
                row = OneWay(row) if row.ways == 2 else TwoWays(row)
                self.assertIs(told(row, word), wanted)
            self.assertEqual(len(strip(row, word, 120)), 121)


class Made(unittest.TestCase):
    def test_attributes(self):
        for letters in range(1, 7):
            row = Table(1, letters, 7, [], [3])
            both = TwoWays(row=row)
            self.assertEqual((both.letters, both.ways), (letters, 2))
            self.assertIs(both.row == row, True)
            self.assertEqual((seat(both, 5), due_tick(both, 5)), (0, 4))

    def test_refused(self):
        for row in BAD_ROWS:
            self.assertEqual(error_of(TwoWays, row), ("BadRow", "row"), row)
        for row in (Table(2, 2, 2, [], []), TwoWays(Table(1, 2, 2, [], [])), Shows(2, 2)):
            self.assertEqual(error_of(TwoWays, row), ("Misfit", "ways"))

    def test_equal(self):
        rules = [((0, 0), 1), ((0, 1), 1)]
        first, second = Table(1, 2, 3, rules, [1, 2]), Table(1, 2, 3, dict(rules[::-1]), [2, 1])
        third, fourth = Table(1, 2, 3, rules, [2]), Table(2, 2, 3, [], [])
        self.assertIs(TwoWays(first) == TwoWays(second), True)
        self.assertIs(TwoWays(first) != TwoWays(second), False)
        self.assertIs(TwoWays(first) == TwoWays(third), False)
        self.assertIs(TwoWays(first) != TwoWays(third), True)
        self.assertIs(TwoWays(OneWay(fourth)) == TwoWays(OneWay(Table(2, 2, 3, {}, ()))), True)
        for value in (first, OneWay(fourth), OneWay(TwoWays(first)), None, 1, "x", (first,), [], object()):
            self.assertIs(TwoWays(first) == value, False)
            self.assertIs(value == TwoWays(first), False)


class Folds(unittest.TestCase):
    def test_small_pairs(self):
        for cell in range(20):
            for tick in range(20):
                self.assertEqual(fold(cell, tick), (cell + tick, 2 * tick))
                self.assertIsInstance(fold(tick=tick, cell=cell), tuple)
                self.assertEqual(unfold(*fold(cell, tick)), (cell, tick, "own"))
        for tick in range(41):
            for cell in range(41):
                wanted = None
                if tick % 2 == 0:
                    wanted = (cell - tick // 2, tick // 2, "own") if cell >= tick // 2 else (tick // 2 - cell - 1, tick // 2, "folded")
                self.assertEqual(unfold(cell, tick), wanted)
                self.assertEqual(unfold(tick=tick, cell=cell), wanted)

    def test_where_worths_stand(self):
        table = table_by_chance(11, ways=1)
        word = [0, table.letters - 1, 0, 0, table.letters - 1, 0, 0]
        inner, lines = strip_by_hand(table, word, 14), strip(TwoWays(table), word, 7)
        for tick in range(0, 15, 2):
            for cell in range(7):
                where, when, part = unfold(cell, tick)
                self.assertEqual(lines[when][where][("own", "folded").index(part)], inner[tick][cell])

    def test_great_ones(self):
        great = 10 ** 30
        for cell, tick in ((0, great), (great, 0), (great, great), (HUGE, 1), (1, HUGE), (HUGE, HUGE)):
            self.assertEqual(fold(cell, tick), (cell + tick, 2 * tick))
            self.assertEqual(unfold(*fold(cell, tick)), (cell, tick, "own"))
        self.assertEqual(unfold(great, 2 * great), (0, great, "own"))
        self.assertEqual(unfold(great - 1, 2 * great), (0, great, "folded"))
        self.assertEqual(unfold(0, 2 * great), (great - 1, great, "folded"))
        self.assertIsNone(unfold(great, 2 * great + 1))
        self.assertIsNone(unfold(0, great + 1))

    def test_wrong_ones(self):
        for call in (fold, unfold):
            for value in BAD_PLACES:
                self.assertEqual(error_of(call, value, 0), ("BadNumber", "cell"), value)
                self.assertEqual(error_of(call, value, 1), ("BadNumber", "cell"), value)
                self.assertEqual(error_of(call, 0, value), ("BadNumber", "tick"), value)
                for other in BAD_PLACES:
                    self.assertEqual(error_of(call, value, other), ("BadNumber", "cell"), value)


class Keys(unittest.TestCase):
    def test_tables_at_all_keys(self):
        # Each rule alone, so that no step of the two ticks is taken for another one.
        for left, own in keys_of(1, 3):
            for worth in range(3):
                table = Table(1, 3, 3, {(left, own): worth}, [worth])
                for word in words_over(3, 3):
                    self.assertEqual(told(TwoWays(table), word), told_by_hand(table, word))


if __name__ == "__main__":
    unittest.main()
