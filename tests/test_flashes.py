"""backwardrow.flashes: the ticks at which rows flash, exactly; signals alone and where they meet, by own moving."""

import itertools
import random
import unittest

from backwardrow.eaters import Eater
from backwardrow.flashes import doubles, echoes, flashes, line_at, meeting, squares
from backwardrow.mirrors import Mirror
from backwardrow.runs import strip
from backwardrow.signals import Signals
from backwardrow.slants import OneWay
from backwardrow.sped import Sped
from helpers import HUGE, NO_INTEGERS, NO_LISTS, ODD, error_of
from made import evens_parts, strip_of, table_by_chance
from made_signals import signal_parts_by_chance, strip_of_signals

KINDS = [(0, 1)] + [(way, wait) for way in (-1, 1) for wait in (1, 2, 3, 4, 5)]
NO_KINDS = (
    *NO_INTEGERS, 0, 1, (), [], (1,), (1, 1, 1), (0, 0), (0, 2), (1, 0), (1, 6), (-1, 6), (2, 1), (-2, 1), (1, -1), (True, 1), (1, True), (None, 1), ("1", 1),
    (1, 1.0), "11", {1: 1}, (HUGE, 1), (1, HUGE), ((1, 1),))


def squares_to(many, ticks):
    return tuple(tick for tick in range(ticks + 1) if any(tick == at * at for at in range(1, many + 1)))


def doubles_to(many, ticks):
    return tuple(tick for tick in range(ticks + 1) if 4 <= tick <= 4 * many and bin(tick).count("1") == 1)


class Made(unittest.TestCase):
    def test_squares(self):
        for many in range(1, 41):
            word = ([1, 2] + [0] * 38)[:many]
            self.assertEqual(flashes(squares(), word, 1000), squares_to(many, 1000), many)
        self.assertEqual(flashes(squares(), [1, 2] + [0] * 28, 899), tuple(at * at for at in range(1, 30)))
        self.assertEqual(flashes(squares(), [1, 2] + [0] * 28, 900), tuple(at * at for at in range(1, 31)))

    def test_doubles(self):
        for many in range(1, 41):
            self.assertEqual(flashes(doubles(), [1] + [0] * (many - 1), 1000), doubles_to(many, 1000), many)
        self.assertEqual(flashes(doubles(), [1] + [0] * 127, 600), (4, 8, 16, 32, 64, 128, 256, 512))

    def test_echoes(self):
        for many in range(2, 41):
            for cell in range(1, many):
                word = [1] + [0] * (many - 1)
                word[cell] = 2
                ticks = 1000 if cell in (1, 2, many // 2, many - 1) else 200
                self.assertEqual(flashes(echoes(), word, ticks), tuple(range(1, ticks + 1, 2 * cell + 1)), word)

    def test_echoes_with_more_letters_1(self):
        # Only the letter 2 is told to stand alone.
        for many in range(2, 9):
            for cell in range(1, many):
                for others in itertools.product((0, 1), repeat=many - 1):
                    word = [1, *others]
                    word[cell] = 2
                    self.assertEqual(flashes(echoes(), word, 60), tuple(range(1, 61, 2 * cell + 1)), word)
        chance = random.Random(1)
        for _ in range(60):
            word = [1] + [chance.randrange(2) for _ in range(39)]
            cell = chance.randrange(1, 40)
            word[cell] = 2
            self.assertEqual(flashes(echoes(), word, 250), tuple(range(1, 251, 2 * cell + 1)), word)

    def test_what_they_are(self):
        for make, letters in ((squares, 3), (doubles, 2), (echoes, 3)):
            row = make()
            self.assertIsInstance(row, Signals)
            self.assertEqual((row.letters, row.ways, row.begins[0]), (letters, 2, ()))
            self.assertLessEqual(len(row.kinds), 8)
            self.assertIs(row == make(), True)
            self.assertIs(Signals.read(str(row)) == row, True)
            # Both begin as told: as what goes left, and as what stands or goes slowly.
            self.assertIn(-1, [row.kinds[kind][0] for kind in row.begins[1]])
            self.assertEqual(row.kinds[row.flash], (1, 1))
        for make in (squares, echoes):
            self.assertEqual([make().kinds[kind] for kind in make().begins[2]], [(0, 1)])
            self.assertEqual([make().borders[kind] for kind in make().begins[1]], [(make().flash,)])
        self.assertIn((1, 3), [doubles().kinds[kind] for kind in doubles().begins[1]])


class Flashes(unittest.TestCase):
    def test_other_rows(self):
        chance = random.Random(2)
        rows = [table_by_chance(seed) for seed in range(30)] + [Mirror(2), OneWay(Mirror(2)), Sped(Mirror(2), 2), OneWay(squares())]
        for row in rows:
            for many in (1, 2, 5, 11):
                word = [chance.randrange(row.letters) for _ in range(many)]
                lines = strip_of(row, word, 30)
                for ticks in (0, 1, 12, 30):
                    wanted = tuple(tick for tick in range(ticks + 1) if row.says(lines[tick][0]))
                    self.assertEqual(flashes(row=row, word=tuple(word), ticks=ticks), wanted)
        for seed in range(60):
            parts = signal_parts_by_chance(seed)
            row = Signals(*parts)
            word = [chance.randrange(row.letters) for _ in range(chance.randint(1, 12))]
            lines = strip_of_signals(parts, word, 40)
            self.assertEqual(flashes(row, word, 40), tuple(tick for tick in range(41) if parts[4] in [kind for kind, _ in lines[tick][0]]))

    def test_refused(self):
        for value in (None, 1, True, "row", [], (), {}, ODD, Signals, Eater(*evens_parts()), str(squares())):
            self.assertEqual(error_of(flashes, value, [0], 3), ("BadRow", "row"))
            self.assertEqual(error_of(flashes, value, None, None), ("BadRow", "row"))
        for value in (*NO_LISTS, [], (), [3], [-1], [0, 3], [True], [None], [0] * 201):
            self.assertEqual(error_of(flashes, squares(), value, 3), ("BadWord", "word"), value)
            self.assertEqual(error_of(flashes, squares(), value, -1), ("BadWord", "word"), value)
        self.assertEqual(error_of(flashes, doubles(), [2], 3), ("BadWord", "word"))
        for value in (*NO_INTEGERS, -1, 1001, HUGE, -HUGE):
            self.assertEqual(error_of(flashes, squares(), [1, 2, 0], value), ("BadNumber", "ticks"), value)
        self.assertEqual(flashes(squares(), [0], 1000), ())


def path_by_hand(kind, cell, ticks):
    """The cells of a signal alone, tick by tick: it waits, then it moves; None when it is over the left end."""
    way, wait = kind
    found, waited = [cell], 0
    for _ in range(ticks):
        waited += 1
        if waited == wait:
            waited = 0
            cell = None if cell is None or cell + way < 0 else cell + way
        found.append(cell)
    return found


class Alone(unittest.TestCase):
    def test_line_at(self):
        for kind in KINDS:
            for cell in (0, 1, 2, 5, 30):
                for tick, wanted in enumerate(path_by_hand(kind, cell, 160)):
                    self.assertEqual(line_at(kind, cell, tick), wanted)
            for cell, tick in ((1000, 1000), (199, 1000), (200, 1000), (201, 1000), (1000, 0), (0, 1000)):
                self.assertEqual(line_at(kind=list(kind), cell=cell, tick=tick), path_by_hand(kind, cell, tick)[-1])

    def test_line_at_in_a_row(self):
        for kind in KINDS:
            row = Signals([kind], [], [[]], [[], [0]], 0)
            for cell in range(12):
                word = [0] * 12
                word[cell] = 1
                for tick, line in enumerate(strip(row, word, 40)):
                    spot = line_at(kind, cell, tick)
                    self.assertEqual([at for at, worth in enumerate(line) if worth], [spot] if spot is not None and spot < 12 else [])

    def test_meeting(self):
        paths = {(kind, cell): path_by_hand(kind, cell, 400) for kind in KINDS for cell in range(9)}
        for (one, place), (other, spot) in itertools.product(list(paths), repeat=2):
            wanted = None
            for tick, (near, far) in enumerate(zip(paths[one, place], paths[other, spot])):
                if near is None or far is None:
                    break
                if near == far:
                    wanted = tick
                    break
            self.assertEqual(meeting(one, place, other, spot), wanted, (one, place, other, spot))

    def test_meeting_far_away(self):
        self.assertEqual(meeting((1, 4), 0, (1, 5), 1000), self.first((1, 4), 0, (1, 5), 1000))
        chance = random.Random(3)
        for _ in range(120):
            one, other = chance.choice(KINDS), chance.choice(KINDS)
            place, spot = (chance.choice((0, 7, 60, 400, 999, 1000)) for _ in range(2))
            self.assertEqual(meeting(list(one), place, list(other), spot), self.first(one, place, other, spot), (one, place, other, spot))

    def first(self, one, place, other, spot):
        """The first tick at which both are in one cell, looked for as long as any could be."""
        for tick in range(21000):
            near, far = place + one[0] * (tick // one[1]), spot + other[0] * (tick // other[1])
            if near < 0 or far < 0:
                return None
            if near == far:
                return tick
        return None

    def test_line_at_refused(self):
        for value in NO_KINDS:
            self.assertEqual(error_of(line_at, value, 0, 0), ("BadNumber", "kind"), value)
            self.assertEqual(error_of(line_at, value, -1, None), ("BadNumber", "kind"), value)
        for value in (*NO_INTEGERS, -1, 1001, HUGE, -HUGE):
            self.assertEqual(error_of(line_at, (1, 1), value, 0), ("BadNumber", "cell"), value)
            self.assertEqual(error_of(line_at, (1, 1), value, -1), ("BadNumber", "cell"), value)
            self.assertEqual(error_of(line_at, (0, 1), 1000, value), ("BadNumber", "tick"), value)

    def test_meeting_refused(self):
        for value in NO_KINDS:
            self.assertEqual(error_of(meeting, value, -1, None, -1), ("BadNumber", "one"), value)
            self.assertEqual(error_of(meeting, (1, 1), 0, value, 0), ("BadNumber", "other"), value)
            self.assertEqual(error_of(meeting, (1, 1), 0, value, -1), ("BadNumber", "other"), value)
        for value in (*NO_INTEGERS, -1, 1001, HUGE, -HUGE):
            self.assertEqual(error_of(meeting, (1, 1), value, (2, 1), -1), ("BadNumber", "place"), value)
            self.assertEqual(error_of(meeting, one=(1, 1), place=0, other=(1, 1), spot=value), ("BadNumber", "spot"), value)


if __name__ == "__main__":
    unittest.main()
