"""backwardrow.tables: what a Table takes, keeps and answers. Its texts have a file of their own."""

import itertools
import unittest

from backwardrow.tables import Table
from helpers import HUGE, NO_INTEGERS, NO_LISTS, error_of
from made import keys_of, parts_by_chance, table_by_chance

BAD = {
    "ways": (0, 3, -1, HUGE, *NO_INTEGERS),
    "letters": (0, 7, -1, HUGE, -HUGE, *NO_INTEGERS),
    "worths": (0, 1, 13, -1, HUGE, -HUGE, *NO_INTEGERS),
    "rules": (
        *NO_LISTS, {0}, [1], [()], [((0, 0, 0),)], [((0, 0, 0), 1, 1)], [[(0, 0, 0), 1], 7], ["ab"], [None],
        [((0, 0), 1)], [((0, 0, 0, 0), 1)], [((), 1)], [(0, 1)], [(None, 1)], [("000", 1)], [({0: 0, 1: 1, 2: 2}, 1)],
        [((0, None, 0), 1)], [((3, 0, 0), 1)], [((0, 3, 0), 1)], [((0, 0, 3), 1)], [((-1, 0, 0), 1)], [((0, 0, -1), 1)],
        [((0, 0, 0), 3)], [((0, 0, 0), -1)], [((0, 0, 0), None)], [((0, 0, 0), True)], [((0, 0, 0), "1")],
        [((0, 0, 0), [1])], [((True, 0, 0), 1)], [((0, False, 0), 1)], [((0, 0, True), 1)], [(("0", 0, 0), 1)],
        [(([0], 0, 0), 1)], [((0, {}, 0), 1)], [((0, 0, 1.0), 1)], [((0, 0, HUGE), 1)], [((0, 0, 0), HUGE)],
        [((0, 0, 0), 1), ((0, 0, 0), 1)], [((0, 0, 0), 1), ([0, 0, 0], 2)], [((0, 0, 1), 1), ((None, 0, 1), 1), ((0, 0, 1), 2)],
        {(0, 0): 1}, {(0, 0, 0): 3}, {(0, 0, 0): True}, {(0, None, 0): 1}, {"000": 1}, {0: 1}, {(0, 0, 0): 1, None: 1},
        {frozenset((0, 1, 2)): 1}, {(0, 0, True): 1},
    ),
    "yes": (
        *NO_LISTS, {}, {0: 1}, {0, 1}, range(2), [3], [-1], [0, 3], [0, 0], (1, 2, 1), [True], [0, False], [None], ["0"],
        [[0]], [(0,)], [1.0], [HUGE], [{}],
    ),
}
NAMES = ("ways", "letters", "worths", "rules", "yes")


def right_ones():
    return {"ways": 2, "letters": 2, "worths": 3, "rules": [((None, 0, 1), 2)], "yes": [2]}


class Parameters(unittest.TestCase):
    def test_each_spoilt_alone(self):
        for name in NAMES:
            for value in BAD[name]:
                parts = right_ones()
                parts[name] = value
                self.assertEqual(error_of(Table, **parts), ("BadTable", name), (name, value))
                self.assertEqual(error_of(Table, *[parts[part] for part in NAMES]), ("BadTable", name), (name, value))

    def test_several_spoilt(self):
        for many in range(2, 6):
            for names in itertools.combinations(NAMES, many):
                for at in range(4):
                    parts = right_ones()
                    for name in names:
                        parts[name] = BAD[name][at * 5 % len(BAD[name])]
                    self.assertEqual(error_of(Table, **parts), ("BadTable", names[0]), names)

    def test_bounds(self):
        for ways in (1, 2):
            for letters in range(0, 9):
                for worths in range(-1, 15):
                    wanted = None
                    if not 1 <= letters <= 6:
                        wanted = "letters"
                    elif not letters <= worths <= 12:
                        wanted = "worths"
                    if wanted is None:
                        table = Table(ways, letters, worths, [], [worths - 1])
                        self.assertEqual((table.ways, table.letters, table.worths), (ways, letters, worths))
                        self.assertEqual((table.rules, table.yes), ((), (worths - 1,)))
                        self.assertEqual(error_of(Table, ways, letters, worths, [], [worths]), ("BadTable", "yes"))
                    else:
                        self.assertEqual(error_of(Table, ways, letters, worths, [], []), ("BadTable", wanted))

    def test_keys_at_their_bounds(self):
        for ways in (1, 2):
            for worths in (1, 2, 12):
                near = [None, -1, 0, worths - 1, worths, True]
                for key in itertools.product(near, repeat=ways + 1):
                    right = key[1] is not None and all(
                        part is None or (part is not True and 0 <= part < worths) for part in key)
                    wanted = "none" if right else "BadTable"
                    for told in ([(key, 0)], [[list(key), 0]], {key: 0}):
                        self.assertEqual(error_of(Table, ways, 1, worths, told, [])[0], wanted, key)

    def test_keys_of_the_other_ways(self):
        self.assertEqual(error_of(Table, 1, 2, 2, [((0, 0, 0), 1)], []), ("BadTable", "rules"))
        self.assertEqual(error_of(Table, 2, 2, 2, [((0, 0), 1)], []), ("BadTable", "rules"))

    def test_one_bad_rule_among_many(self):
        rules = [(key, 0) for key in keys_of(2, 3)]
        self.assertEqual(len(Table(2, 1, 3, rules, []).rules), 48)
        for at in (0, 20, 47):
            for bad in ((rules[at][0], 3), ((0, 0), 0), rules[(at + 1) % 48], None, (rules[at][0], None)):
                spoilt = list(rules)
                spoilt[at] = bad
                self.assertEqual(error_of(Table, 2, 1, 3, spoilt, []), ("BadTable", "rules"))


class Kept(unittest.TestCase):
    def test_rules_and_yes_ascend(self):
        for ways in (1, 2):
            for worths in (1, 2, 3, 12):
                keys = keys_of(ways, worths)
                rules = [(key, (at * 5) % worths) for at, key in enumerate(keys)]
                mixed = rules[1::2] + rules[::-2] if len(rules) % 2 == 1 else rules[::-1]
                table = Table(ways, 1, worths, mixed, list(range(worths))[::-1])
                self.assertEqual(table.rules, tuple(rules))
                self.assertEqual(table.yes, tuple(range(worths)))

    def test_none_stands_below_all_worths(self):
        table = Table(2, 1, 2, {(1, 0, 0): 1, (0, 0, 1): 1, (0, 0, None): 1, (None, 1, 1): 0, (0, 0, 0): 1}, [])
        self.assertEqual([key for key, _ in table.rules], [(None, 1, 1), (0, 0, None), (0, 0, 0), (0, 0, 1), (1, 0, 0)])

    def test_kinds_of_lists(self):
        wanted = Table(2, 2, 3, [((None, 0, 1), 2), ((1, 2, None), 0)], [0, 2])
        for rules in (
            (((None, 0, 1), 2), ((1, 2, None), 0)), [[[None, 0, 1], 2], [[1, 2, None], 0]],
            ([(1, 2, None), 0], ([None, 0, 1], 2)), {(None, 0, 1): 2, (1, 2, None): 0}, {(1, 2, None): 0, (None, 0, 1): 2},
        ):
            for yes in ([0, 2], (2, 0), [2, 0]):
                table = Table(2, 2, 3, rules, yes)
                self.assertIs(table == wanted, True)
                self.assertEqual(repr(table.rules), "(((None, 0, 1), 2), ((1, 2, None), 0))")
                self.assertEqual(repr(table.yes), "(0, 2)")

    def test_what_was_passed_may_be_changed(self):
        key = [None, 0, 1]
        pair = [key, 2]
        rules, yes = [pair], [2]
        by_key = {(None, 0, 1): 2}
        one, other = Table(2, 2, 3, rules, yes), Table(2, 2, 3, by_key, yes)
        key[0] = 1
        pair[1] = 0
        rules.append(((0, 0, 0), 1))
        yes.append(0)
        by_key[(0, 0, 0)] = 1
        by_key[(None, 0, 1)] = 1
        for table in (one, other):
            self.assertEqual((table.rules, table.yes), ((((None, 0, 1), 2),), (2,)))
            self.assertEqual([table.next(None, 0, 1), table.next(0, 0, 0), table.says(0)], [2, 0, False])
            self.assertEqual(str(table), "ways 2 letters 2 worths 3\nyes 2\n- 0 1 > 2")

    def test_what_was_passed_is_not_changed(self):
        rules, yes = [[[1, 0, 1], 2], [[None, 0, 1], 2]], [2, 1]
        Table(2, 2, 3, rules, yes)
        self.assertEqual((rules, yes), ([[[1, 0, 1], 2], [[None, 0, 1], 2]], [2, 1]))


class Equal(unittest.TestCase):
    def test_equal_ones(self):
        for seed in range(60):
            ways, letters, worths, rules, yes = parts_by_chance(seed)
            one, other = Table(ways, letters, worths, rules, yes), Table(ways, letters, worths, dict(rules[::-1]), yes[::-1])
            self.assertIs(one == other, True)
            self.assertIs(one != other, False)

    def test_each_part_counts(self):
        tables = [
            Table(1, 1, 2, [], []), Table(2, 1, 2, [], []), Table(1, 2, 2, [], []), Table(1, 1, 3, [], []),
            Table(1, 1, 2, {(0, 0): 1}, []), Table(1, 1, 2, {(None, 0): 1}, []), Table(1, 1, 2, {(0, 0): 0}, []),
            Table(1, 1, 2, [], [0]), Table(1, 1, 2, [], [1]), Table(1, 1, 2, [], [0, 1]),
        ]
        for at, one in enumerate(tables):
            for place, other in enumerate(tables):
                self.assertIs(one == other, at == place)
                self.assertIs(one != other, at != place)

    def test_other_values(self):
        table = table_by_chance(3)
        for value in (None, 1, "x", [], (), {}, str(table), (table.ways, table.letters), object()):
            self.assertIs(table == value, False)
            self.assertIs(value == table, False)


class Answers(unittest.TestCase):
    def test_begin(self):
        for letters in range(1, 7):
            table = Table(1, letters, 12, [], [])
            self.assertEqual([table.begin(letter) for letter in range(letters)], list(range(letters)))

    def test_next_at_all_keys(self):
        for seed in range(60):
            ways, letters, worths, rules, yes = parts_by_chance(seed)
            table, steps = Table(ways, letters, worths, rules, yes), dict(rules)
            for key in keys_of(ways, worths):
                if ways == 2:
                    self.assertEqual(table.next(*key), steps.get(key, key[1]))
                    continue
                for right in (None, 0, worths - 1, 99, "x", [], {}, [[1]], (2,), object()):
                    self.assertEqual(table.next(*key, right), steps.get(key, key[1]))

    def test_a_rule_that_keeps_the_worth(self):
        table = Table(2, 1, 3, {(0, 1, 0): 1, (0, 2, 0): 0}, [])
        self.assertEqual([table.next(0, 1, 0), table.next(0, 2, 0), table.next(None, 2, 0)], [1, 0, 2])

    def test_says(self):
        for worths in (1, 3, 12):
            for many in range(worths + 1):
                yes = list(range(worths))[many:]
                table = Table(1, 1, worths, [], yes)
                for worth in range(worths):
                    self.assertIs(table.says(worth), worth >= many)

    def test_asked_again(self):
        table = table_by_chance(5, ways=2)
        first = [table.next(*key) for key in keys_of(2, table.worths)]
        again = [table.next(*key) for key in keys_of(2, table.worths)[::-1]]
        self.assertEqual(first, again[::-1])


if __name__ == "__main__":
    unittest.main()
