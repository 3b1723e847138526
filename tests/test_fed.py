"""backwardrow.fed: what cell 0 says at each tick, against own eating; how great worths are; equality."""

import itertools
import random
import unittest

from backwardrow.eaters import Eater, side_by_side
from backwardrow.fed import Fed
from backwardrow.folds import TwoWays
from backwardrow.joined import Both, Either, Not
from backwardrow.rows import Row
from backwardrow.runs import due_tick, said, seat, strip, told, told_words, worth_at
from backwardrow.slants import OneWay
from helpers import NO_INTEGERS, error_of
from made import eater_parts_by_chance, evens_parts, only_small, strip_of, taken_by_hand, turning_parts, words_over


def marks_parts(stacks):
    """An eater that puts signs on all its stacks, letter by letter, and takes them off by letter 2, seeing each of them."""
    rules = []
    for state, tops in itertools.product(range(3), itertools.product((None, 0, 1, 2, 3), repeat=stacks)):
        for letter in (0, 1):
            moves = [("push", (at + letter * 2 + state) % 4) for at in range(stacks)]
            rules.append(((state, letter, tops), ((state + letter + 1) % 3, moves)))
        total = sum(-1 if top is None else top for top in tops)
        moves = [None if top is None else "pop" for top in tops]
        rules.append(((state, 2, tops), ((state + total) % 3, moves)))
    return 3, 3, stacks, rules, [0]


def parts_of_all(many):
    return [eater_parts_by_chance(seed) for seed in range(many)] + [evens_parts(), turning_parts()] + [marks_parts(stacks) for stacks in (0, 1, 2)]


class Says(unittest.TestCase):
    def check(self, row, parts, word):
        """Hold what the row says of a word, tick by tick, against what the eater takes of its beginnings."""
        lines = strip_of(row, word, len(word) - 1)
        for tick, line in enumerate(lines):
            wanted = taken_by_hand(parts, word[:tick + 1])
            self.assertIs(row.says(line[0]), wanted, (word, tick))
            for worth in line:
                self.assertLessEqual(len(repr(worth)), 80)
                self.assertTrue(only_small(worth), worth)
        self.assertIs(told(row, word), wanted)
        self.assertIs(said(row, word, len(word) - 1), wanted)
        self.assertIs(said(row, word, len(word) // 2), taken_by_hand(parts, word[:len(word) // 2 + 1]))

    def test_all_short_words(self):
        for parts in parts_of_all(45):
            row = Fed(Eater(*parts))
            for word in words_over(row.letters, 4):
                self.check(row, parts, list(word))

    def test_words_by_chance(self):
        chance = random.Random(8)
        for parts in parts_of_all(60):
            row = Fed(Eater(*parts))
            for many in (6, 11, 20, 33):
                self.check(row, parts, [chance.randrange(row.letters) for _ in range(many)])

    def test_long_runs(self):
        for parts, words in (
            (evens_parts(), ([0] * 45 + [1] * 45, [0] * 30 + [1] * 31, [0] * 33 + [1] * 32, [0] * 50 + [1] * 50, [0] * 95)),
            (turning_parts(), ([0] * 33 + [1] * 33 + [2] * 33, [0, 0, 1] * 30 + [2] * 9, [0] * 32 + [1, 0] * 15 + [1] * 31, [0, 1, 2] * 33 + [1])),
            (marks_parts(0), ([0, 1, 2, 2] * 24,)),
            (marks_parts(1), ([0, 1, 1] * 16 + [2] * 48, [0] * 31 + [2] * 31 + [1] * 30, [0, 0, 1, 2] * 20 + [2] * 20)),
            (marks_parts(2), ([0, 1, 1] * 16 + [2] * 49, [1] * 30 + [2] * 30 + [0, 2] * 20, [1, 2, 0] * 15 + [2] * 50)),
        ):
            row = Fed(Eater(*parts))
            for word in words:
                self.assertTrue(len(word) <= 101)
                self.check(row, parts, word)

    def test_long_words_by_chance(self):
        chance = random.Random(9)
        for parts in (turning_parts(), marks_parts(1), marks_parts(2), evens_parts()):
            row = Fed(Eater(*parts))
            for many in (90, 100):
                # Letters come in runs, so that stacks grow long and go again.
                word = []
                while len(word) < many:
                    word += [chance.randrange(row.letters)] * chance.randint(1, 14)
                self.check(row, parts, word[:many])

    def test_all_tops_are_seen(self):
        # The stack is emptied sign by sign, and each sign leads to its own state.
        rules = [((state, letter, (top,)), (4, (("push", letter),))) for state in (4,) for letter in range(4) for top in (None, 0, 1, 2, 3)]
        rules += [((0, letter, (None,)), (4, (("push", letter),))) for letter in range(4)]
        rules += [((state, 4, (top,)), (top, ("pop",))) for state in range(5) for top in range(4)]
        parts = (5, 5, 1, rules, [1])
        row = Fed(Eater(*parts))
        chance = random.Random(4)
        for many in (1, 2, 3, 4, 5, 9, 14, 30, 45):
            signs = [chance.randrange(4) for _ in range(many)]
            word = signs + [4] * many
            lines = strip(row, word, len(word) - 1)
            for at, sign in enumerate(reversed(signs)):
                self.assertIs(row.says(lines[many + at][0]), sign == 1, (signs, at))
            self.check(row, parts, word)

    def test_stuck(self):
        parts = (2, 2, 1, [((0, 0, [None]), (1, [("push", 0)])), ((1, 0, [0]), (1, [None]))], [0, 1])
        row = Fed(Eater(*parts))
        for word in words_over(2, 6):
            self.check(row, parts, list(word))
        none = Fed(Eater(2, 1, 2, [], [0]))
        self.assertEqual(told_words(none, 3), ())
        self.assertIs(said(none, [0, 1], 0), False)

    def test_states_at_the_bounds(self):
        parts = (6, 12, 2, [((state, letter, tops), ((state + letter + 1) % 12, [("push", 3), ("push", 3)]))
                            for state in range(12) for letter in range(6) for tops in ((None, None), (3, 3))], [11])
        row = Fed(Eater(*parts))
        for word in ([5] * 60, [0] * 90, [at % 6 for at in range(80)]):
            self.check(row, parts, word)


class Rows(unittest.TestCase):
    def test_told_words(self):
        for parts in parts_of_all(24):
            row = Fed(Eater(*parts))
            for many in (1, 2, 4):
                wanted = tuple(word for word in itertools.product(range(row.letters), repeat=many) if taken_by_hand(parts, word))
                self.assertEqual(told_words(row, many), wanted)

    def test_rows_made_of_them(self):
        for parts in parts_of_all(12):
            row = Fed(Eater(*parts))
            for word in words_over(row.letters, 4)[::2]:
                wanted = taken_by_hand(parts, word)
                for made in (OneWay(row), TwoWays(OneWay(row)), OneWay(TwoWays(OneWay(row))), Not(Not(row)), Both(row, row)):
                    self.assertIs(told(made, word), wanted)
                self.assertIs(told(Not(row), word), not wanted)

    def test_side_by_side_against_joined_rows(self):
        parts = [eater_parts_by_chance(seed) for seed in range(60)]
        found = 0
        for first, second in itertools.combinations(parts, 2):
            if first[0] != second[0] or first[1] * second[1] > 12 or first[2] + second[2] > 2:
                continue
            found += 1
            if found % 6:
                continue
            one, other = Eater(*first), Eater(*second)
            beside, joined = Fed(side_by_side(one, other)), Both(Fed(one), Fed(other))
            for word in words_over(one.letters, 4)[::2] + [[0] * 9, [one.letters - 1, 0, 0] * 4]:
                for tick in range(len(word)):
                    wanted = taken_by_hand(first, word[:tick + 1]) and taken_by_hand(second, word[:tick + 1])
                    self.assertIs(said(beside, word, tick), wanted)
                    self.assertIs(said(joined, word, tick), wanted)
                    wanted = taken_by_hand(first, word[:tick + 1]) or taken_by_hand(second, word[:tick + 1])
                    self.assertIs(said(Either(Fed(one), Fed(other)), word, tick), wanted)
        self.assertGreater(found, 60)

    def test_asked_again_in_any_order(self):
        chance = random.Random(2)
        for parts in (turning_parts(), marks_parts(2), *[eater_parts_by_chance(seed) for seed in range(6)]):
            one, other = Fed(Eater(*parts)), Fed(Eater(*parts))
            words = [[chance.randrange(one.letters) for _ in range(many)] for many in (1, 2, 5, 9, 14)]
            asked = [(word, cell, tick) for word in words for cell in range(len(word)) for tick in (0, 1, len(word) - 1, 20)]
            found = [worth_at(one, *told_so) for told_so in asked]
            order = list(range(len(asked)))
            chance.shuffle(order)
            for at in order:
                self.assertEqual(worth_at(other, *asked[at]), found[at])
                self.assertEqual(worth_at(one, *asked[at]), found[at])
                self.assertIs(one.says(found[at]), other.says(found[at]))

    def test_any_worths_beside_one_another(self):
        chance = random.Random(6)
        for parts in (turning_parts(), marks_parts(1), marks_parts(2), evens_parts(), *[eater_parts_by_chance(seed) for seed in range(9)]):
            row = Fed(Eater(*parts))
            word = [chance.randrange(row.letters) for _ in range(14)] + [0] * 9
            found = [worth for line in strip_of(row, word, 30) for worth in line]
            for _ in range(1500):
                left, own, right = (chance.choice(found) for _ in range(3))
                left = None if chance.random() < 0.2 else left
                right = None if chance.random() < 0.2 else right
                worth = row.next(left, own, right)
                self.assertTrue(only_small(worth) and len(repr(worth)) <= 80, worth)
                self.assertIn(row.says(worth), (True, False))
                self.assertEqual(row.next(left, own, right), worth)
                if chance.random() < 0.5:
                    found.append(worth)

    def test_finitely_many_worths(self):
        row = Fed(Eater(*evens_parts()))
        found = set()
        for many in range(1, 25):
            for word in ([0] * many + [1] * many, [0] * many, [0, 1] * many):
                found |= {worth for line in strip_of(row, word, len(word)) for worth in line}
        before = len(found)
        for word in ([0] * 60 + [1] * 60, [0] * 90):
            found |= {worth for line in strip_of(row, word, len(word)) for worth in line}
        self.assertEqual(len(found), before)


class Made(unittest.TestCase):
    def test_attributes(self):
        for letters in range(1, 7):
            eater = Eater(letters, 2, 1, [], [1])
            row = Fed(eater=eater)
            self.assertEqual((row.letters, row.ways), (letters, 2))
            self.assertIs(row.eater == eater, True)
            self.assertIsInstance(row, Row)
            self.assertEqual((seat(row, 7), due_tick(row, 7)), (0, 6))

    def test_refused(self):
        for value in (*NO_INTEGERS, 0, "eater", evens_parts(), str(Eater(*evens_parts())), Row(), Fed(Eater(*evens_parts())), Eater):
            self.assertEqual(error_of(Fed, value), ("BadEater", "eater"), value)

    def test_equal(self):
        parts = evens_parts()
        eater, again, other = Eater(*parts), Eater(*parts[:3], dict(parts[3][::-1]), parts[4]), Eater(*parts[:4], [1])
        self.assertIs(Fed(eater) == Fed(again), True)
        self.assertIs(Fed(eater) != Fed(again), False)
        self.assertIs(Fed(eater) == Fed(other), False)
        self.assertIs(Fed(eater) != Fed(other), True)
        for value in (eater, None, 1, "x", (eater,), [], object(), OneWay(Fed(eater)), Not(Not(Fed(eater)))):
            self.assertIs(Fed(eater) == value, False)
            self.assertIs(value == Fed(eater), False)


if __name__ == "__main__":
    unittest.main()
