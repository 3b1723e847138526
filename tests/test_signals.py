"""backwardrow.signals: what is refused and kept, single cells, strips against own moving of each signal; equality."""

import copy
import itertools
import random
import unittest

from backwardrow.folds import TwoWays
from backwardrow.joined import Both, Not, Renamed
from backwardrow.rows import Row
from backwardrow.runs import due_tick, said, seat, strip, told, told_words, worth_at
from backwardrow.signals import Signals
from backwardrow.slants import OneWay
from backwardrow.sped import Sped, inner_tick
from helpers import HUGE, NO_INTEGERS, NO_LISTS, ODD, error_of
from made import only_small
from made_signals import signal_parts_by_chance, strip_of_signals

BOUNCE = ([(1, 1), (-1, 2), (0, 1)], [([0, 2], [1, 2])], [[], [0], []], [[], [0], [2]], 0)


def tuples(value):
    return tuple(tuples(part) for part in value) if isinstance(value, (list, tuple)) else value


class Refused(unittest.TestCase):
    def refused(self, part, value, at, parts=BOUNCE):
        spoilt = [*parts[:at], value, *parts[at + 1:]]
        self.assertEqual(error_of(Signals, *spoilt), ("BadSignals", part), value)
        # What comes behind is not looked at.
        self.assertEqual(error_of(Signals, *spoilt[:at + 1], *[ODD] * (4 - at)), ("BadSignals", part), value)

    def test_kinds(self):
        for value in (*NO_LISTS, [], (), {}, {1: 1}, [1], [(1,)], [(1, 1, 1)], [()], [[]], ["11"], [None], [(1, 1), 0], [ODD], "1 1"):
            self.refused("kinds", value, 0)
        for way in (-2, 2, *NO_INTEGERS, HUGE, -HUGE):
            self.refused("kinds", [(1, 1), (way, 1)], 0)
        for wait in (-1, 0, 6, *NO_INTEGERS, HUGE):
            for way in (-1, 0, 1):
                self.refused("kinds", [(way, wait), (1, 1)], 0)
        for wait in (2, 3, 4, 5):
            self.refused("kinds", [(0, wait)], 0)
        self.refused("kinds", [(1, 1)] * 9, 0)
        for many in range(1, 9):
            self.assertEqual(len(Signals([(1, 5)] * many, [], [[]] * many, [[]], many - 1).kinds), many)

    def test_meets(self):
        for value in (*NO_LISTS, {}, {(0,): (1,)}, [1], [([0],)], [([0], [1], [2])], [()], ["01"], [None], [([0], [1]), 0], [ODD], [([], [1])], [((), ())]):
            self.refused("meets", value, 1)
        for lot in (*NO_LISTS, [3], [-1], [0, 0], [0, 1, 0], [True], [None], [[0]], ["0"], {}, {0: 1}, {0}, [HUGE], [1.0]):
            self.refused("meets", [([0, 1], [0]), (lot, [0])], 1)
            self.refused("meets", [([0, 1], [0]), ([1], lot)], 1)
        self.refused("meets", [([0, 1], [0]), ([1, 0], [0])], 1)
        self.refused("meets", [([2], []), ((2,), [])], 1)
        lots = [lot for size in (1, 2, 3) for lot in itertools.combinations(range(8), size)]
        parts = ([(1, 1)] * 8, [(lot, []) for lot in lots[:40]], [[]] * 8, [[]], 0)
        self.assertEqual(len(Signals(*parts).meets), 40)
        self.refused("meets", [(lot, []) for lot in lots[:41]], 1, parts)

    def test_borders(self):
        for value in (*NO_LISTS, [], (), {}, [[], []], [[], [], [], []], [[], [], 0], [[], [], None], [[], [], "0"], [[0], [1], {2}], [[], [3], []], [[-1], [], []],
                      [[], [], [1, 1]], [[True], [], []], {0: [], 1: [], 2: []}, [[], [], [[0]]]):
            self.refused("borders", value, 2)

    def test_begins(self):
        for value in (*NO_LISTS, [], (), {}, [[]] * 7, [0], [[], None], [[3]], [[-1]], [[0, 0]], [[False]], ["0"], [[], {0}], {0: []}, [[HUGE]]):
            self.refused("begins", value, 3)
        for many in range(1, 7):
            self.assertEqual(Signals(*BOUNCE[:3], [[]] * many, 0).letters, many)

    def test_flash(self):
        for value in (*NO_INTEGERS, -1, 3, HUGE, -HUGE):
            self.refused("flash", value, 4)
        for flash in range(3):
            self.assertEqual(Signals(*BOUNCE[:4], flash).flash, flash)

    def test_several_at_once(self):
        spoilt = ([], [1], [], [], None)
        for at, part in enumerate(("kinds", "meets", "borders", "begins", "flash")):
            self.assertEqual(error_of(Signals, *BOUNCE[:at], *spoilt[at:]), ("BadSignals", part))
        names = dict(zip(("kinds", "meets", "borders", "begins", "flash"), BOUNCE))
        self.assertIs(Signals(**names) == Signals(*BOUNCE), True)


class Kept(unittest.TestCase):
    def test_ascending(self):
        row = Signals([[1, 5], (-1, 1), [0, 1]], ([[2, 0], (1, 0)], ((1,), []), [(0,), [2, 1, 0]]), [[2, 1], (), [0]], ([2, 0], []), 1)
        self.assertEqual(row.kinds, ((1, 5), (-1, 1), (0, 1)))
        self.assertEqual(row.meets, (((0,), (0, 1, 2)), ((0, 2), (0, 1)), ((1,), ())))
        self.assertEqual((row.borders, row.begins, row.flash), (((1, 2), (), (0,)), ((0, 2), ()), 1))
        self.assertEqual((row.letters, row.ways, seat(row, 4), due_tick(row, 4)), (2, 2, 0, 3))
        self.assertIsInstance(row, Row)

    def test_lots_in_any_order(self):
        chance = random.Random(1)
        for seed in range(80):
            parts = signal_parts_by_chance(seed)
            row = Signals(*parts)
            mixed = copy.deepcopy(parts)
            chance.shuffle(mixed[1])
            for lot in [part for pair in mixed[1] for part in pair] + mixed[2] + mixed[3]:
                chance.shuffle(lot)
            self.assertIs(Signals(*mixed) == row, True)
            self.assertIs(Signals(*tuples(mixed)) == row, True)
            self.assertEqual(row.meets, tuple(sorted((tuple(sorted(first)), tuple(sorted(second))) for first, second in parts[1])))
            self.assertEqual(row.borders, tuple(tuple(sorted(lot)) for lot in parts[2]))
            self.assertEqual(row.begins, tuple(tuple(sorted(lot)) for lot in parts[3]))

    def test_equal(self):
        row = Signals(*BOUNCE)
        self.assertIs(row == Signals(*copy.deepcopy(BOUNCE)), True)
        self.assertIs(row != Signals(*BOUNCE), False)
        others = (([(1, 1), (-1, 2), (1, 1)], 0), ([], 1), ([([0, 2], [1])], 1), ([[], [0], [1]], 2), ([[], [0]], 3), ([[], [2], [0]], 3), (1, 4))
        for value, at in others:
            other = Signals(*BOUNCE[:at], value, *BOUNCE[at + 1:])
            self.assertIs(row == other, False)
            self.assertIs(row != other, True)
        for value in (None, 0, "x", BOUNCE, [], object(), Not(row), OneWay(row)):
            self.assertIs(row == value, False)
            self.assertIs(value == row, False)

    def test_what_was_passed_may_be_changed(self):
        parts = copy.deepcopy(BOUNCE)
        row = Signals(*parts)
        parts[0][0] = (0, 1)
        parts[1][0][0].append(1)
        parts[1].append(([1], []))
        parts[2][1].append(2)
        parts[3][1].clear()
        self.assertIs(row == Signals(*BOUNCE), True)
        self.assertEqual(strip(row, [1, 2, 0], 9), strip_of_signals(BOUNCE, [1, 2, 0], 9))


class Cells(unittest.TestCase):
    def test_all_ways_and_waits(self):
        for way, wait in [(0, 1)] + [(way, wait) for way in (-1, 1) for wait in (1, 2, 3, 4, 5)]:
            row = Signals([(way, wait), (0, 1)], [], [[1], []], [[0]], 0)
            for waited in range(wait):
                signal, gone = ((0, waited),), waited + 1 == wait and way != 0
                stays = () if gone else ((0, 0 if way == 0 else waited + 1),)
                self.assertEqual(row.next((), signal, ()), stays)
                self.assertEqual(row.next((), signal, None), stays)
                self.assertEqual(row.next(None, signal, ()), ((1, 0),) if gone and way == -1 else stays)
                self.assertEqual(row.next(None, signal, None), ((1, 0),) if gone and way == -1 else stays)
                self.assertEqual(row.next(signal, (), ()), ((0, 0),) if gone and way == 1 else ())
                self.assertEqual(row.next((), (), signal), ((0, 0),) if gone and way == -1 else ())

    def test_begins_without_meets(self):
        row = Signals([(1, 1), (0, 1)], [([0, 1], [])], [[], []], [[1, 0], []], 0)
        self.assertEqual([row.begin(letter) for letter in (0, 1)], [((0, 0), (1, 0)), ()])
        self.assertEqual(strip(row, [0, 0], 1), ((((0, 0), (1, 0)),) * 2, (((1, 0),), ())))

    def test_alike_signals_that_come_together(self):
        row = Signals([(1, 1), (-1, 1), (0, 1), (-1, 2)], [], [[], [2, 3], [], [3]], [[]], 0)
        self.assertEqual(row.next(None, ((1, 0), (2, 0)), ()), ((2, 0), (3, 0)))
        self.assertEqual(row.next(None, ((3, 1),), ((3, 1),)), ((3, 0),))
        self.assertEqual(row.next(None, ((1, 0), (3, 0)), ((3, 1),)), ((2, 0), (3, 0), (3, 1)))
        # Both stand in the cell with other times waited, and are one kind for a meet.
        met = Signals([(-1, 3), (0, 1)], [([0], [1]), ([0, 1], [0])], [[], []], [[]], 0)
        self.assertEqual(met.next((), ((0, 0),), ((0, 2),)), ((1, 0),))
        self.assertEqual(met.next((), ((0, 0), (1, 0)), ((0, 2),)), ((0, 0), (0, 1)))

    def test_meets(self):
        kinds = [(0, 1), (0, 1), (0, 1), (1, 3)]
        row = Signals(kinds, [([0], [1]), ([1], [2]), ([0, 1], [1, 2]), ([2, 3], [3]), ([3], [3, 0]), ([0, 1, 2], [])], [[]] * 4, [[]], 0)
        for own, wanted in (
            (((0, 0),), ((1, 0),)), (((1, 0),), ((2, 0),)), (((2, 0),), ((2, 0),)), (((0, 0), (1, 0)), ((1, 0), (2, 0))),
            (((2, 0), (3, 1)), ((3, 2),)), (((3, 0),), ((0, 0), (3, 1))), (((0, 0), (1, 0), (2, 0)), ()), (((0, 0), (2, 0)), ((0, 0), (2, 0))), ((), ()),
        ):
            self.assertEqual(row.next((), own, ()), wanted)

    def test_says(self):
        for flash in range(3):
            row = Signals(*BOUNCE[:4], flash)
            for worth in ((), ((0, 0),), ((1, 0), (1, 1)), ((0, 0), (2, 0)), ((0, 0), (1, 0), (2, 0))):
                self.assertIs(row.says(worth), flash in [kind for kind, _ in worth])


class Strips(unittest.TestCase):
    def test_against_own_moving(self):
        chance = random.Random(2)
        for seed in range(300):
            parts = signal_parts_by_chance(seed)
            row = Signals(*parts)
            for many in (1, 2, 3, 6, chance.randint(7, 40)):
                word = [chance.randrange(row.letters) for _ in range(many)]
                wanted = strip_of_signals(parts, word, 25)
                self.assertEqual(strip(row, word, 25), wanted)
                cell, tick = chance.randrange(many), chance.randrange(26)
                self.assertEqual(worth_at(row, word, cell, tick), wanted[tick][cell])
                self.assertIs(said(row, word, tick), parts[4] in [kind for kind, _ in wanted[tick][0]])
                for worth in wanted[25]:
                    self.assertTrue(only_small(worth))

    def test_any_worths_beside_one_another(self):
        chance = random.Random(3)
        for seed in range(25):
            parts = signal_parts_by_chance(seed)
            row = Signals(*parts)
            found = [worth for line in strip(row, [chance.randrange(row.letters) for _ in range(8)], 12) for worth in line]
            for _ in range(200):
                left, own, right = (chance.choice(found) for _ in range(3))
                for beside in ((left, own, right), (None, own, right), (left, own, None), (None, own, None)):
                    worth = row.next(*beside)
                    self.assertEqual(list(worth), sorted(set(worth)))
                    self.assertTrue(all(0 <= waited < parts[0][kind][1] for kind, waited in worth))
                    self.assertEqual(row.next(*beside), worth)
                found.append(worth)

    def test_rows_made_of_them(self):
        chance = random.Random(4)
        for seed in range(40):
            parts = signal_parts_by_chance(seed)
            row = Signals(*parts)
            for many in (1, 2, 4, 7):
                word = [chance.randrange(row.letters) for _ in range(many)]
                wanted = parts[4] in [kind for kind, _ in strip_of_signals(parts, word, many - 1)[-1][0]]
                self.assertIs(told(row, word), wanted)
                for made in (OneWay(row), TwoWays(OneWay(row)), Not(Not(row)), Both(row, row), Renamed(row, range_list(row.letters)), Sped(row, 3)):
                    self.assertIs(told(made, word), wanted)
                further = strip_of_signals(parts, word, inner_tick(many, 2, many + 4))
                for tick, line in enumerate(strip(Sped(row, 2), word, many + 4)):
                    self.assertEqual(Sped(row, 2).inner(line[0]), further[inner_tick(many, 2, tick)][0])

    def test_told_words(self):
        for seed in range(30):
            parts = signal_parts_by_chance(seed)
            row = Signals(*parts)
            many = 3 if row.letters > 3 else 4
            wanted = []
            for word in itertools.product(range(row.letters), repeat=many):
                if parts[4] in [kind for kind, _ in strip_of_signals(parts, word, many - 1)[-1][0]]:
                    wanted.append(word)
            self.assertEqual(told_words(row, many), tuple(wanted))


def range_list(many):
    return list(range(many))


if __name__ == "__main__":
    unittest.main()
