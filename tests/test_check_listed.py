"""backwardrow.check_listed: right papers in every form, and papers spoilt in each part."""

import itertools
import random
import unittest

from backwardrow.check_listed import shows_listed
from backwardrow.joined import Both, Either, Not, Renamed
from backwardrow.listed import Listed, listed
from backwardrow.papers import Denial, Paper
from backwardrow.slants import OneWay
from backwardrow.folds import TwoWays
from backwardrow.tables import Table
from helpers import HUGE, NO_INTEGERS, NO_LISTS, ODD, error_of
from made import come_to, keys_of, table_by_chance

SOME = Table(2, 2, 2, [((left, 0, 1), 1) for left in (None, 0, 1)], [1])
FIRST = Table(2, 2, 2, [], [1])
BAD_ROWS = (*NO_INTEGERS, 0, 1, "row", Table, listed)


class Raises:
    """An object that cannot be compared, shown, hashed, measured or tested."""

    def __eq__(self, other):
        raise RuntimeError("compared")

    def __bool__(self):
        raise RuntimeError("tested")

    def __repr__(self):
        raise RuntimeError("shown")

    def __len__(self):
        raise RuntimeError("measured")


class Same(Paper):
    """A class of papers that has all that a Listed has."""

    def __init__(self, names, table):
        Paper.__init__(self, "listed", names, table)
        self.names, self.table = self.parts


def table_for(row, names, keep=True, yes=None):
    """The table of these names, with all rules, or without those at which a cell keeps its worth."""
    places = {name: number for number, name in enumerate(names)}
    rules = {}
    for key in keys_of(row.ways, len(names)):
        near = [None if number is None else names[number] for number in (*key, None)[:3]]
        worth = places[row.next(*near)]
        if keep or worth != key[1]:
            rules[key] = worth
    says = [number for number, name in enumerate(names) if row.says(name)]
    return Table(row.ways, row.letters, len(names), rules, says if yes is None else yes)


def rows():
    """Rows of at most five worths, each with the names that it has."""
    found = [Both(SOME, Not(FIRST)), Either(FIRST, Renamed(SOME, [1, 0])), Not(SOME), FIRST, Both(FIRST, FIRST)]
    found += [table_by_chance(seed) for seed in range(14)]
    found += [OneWay(Table(2, 1, 1, [], [0])), TwoWays(Table(1, 1, 1, [], [0])), Table(1, 3, 4, {(None, 1): 3}, [2])]
    return [row for row in found if len(come_to(row)) <= 5]


def names_in_orders(row):
    """Names in all orders that are let, the one that is told among them."""
    begins = [row.begin(letter) for letter in range(row.letters)]
    others = [worth for worth in come_to(row) if worth not in begins]
    return [tuple(begins) + order for order in itertools.permutations(others)]


class Right(unittest.TestCase):
    def test_what_is_told(self):
        for row in rows():
            self.assertIs(shows_listed(row, listed(row, 12)), True)
            self.assertIs(shows_listed(value=listed(row, 12), row=row), True)

    def test_any_order_of_the_other_names_and_any_rules(self):
        orders = [names_in_orders(row)[:6] for row in rows()]
        self.assertTrue(any(len(found) > 1 for found in orders))
        for row, found in zip(rows(), orders):
            for names in found:
                for keep in (True, False):
                    self.assertIs(shows_listed(row, Listed(names, table_for(row, names, keep))), True)
                    self.assertIs(shows_listed(row, Listed(table=table_for(row, names, keep), names=list(names))), True)

    def test_lists_for_tuples(self):
        row = Both(SOME, Not(FIRST))
        table = listed(row, 4).table
        for names in ([[0, 0], [1, 1], [1, 0]], [(0, 0), [1, 1], (1, 0)], ((0, 0), (1, 1), [1, 0])):
            self.assertIs(shows_listed(row, Listed(names, table)), True)

    def test_twelve_worths(self):
        row = Table(2, 1, 12, {(None, own, None): own + 1 for own in range(11)}, [11])
        order = (0, *range(11, 0, -1))
        for names in (tuple(range(12)), order):
            self.assertIs(shows_listed(row, Listed(names, table_for(row, names))), True)
            self.assertIs(shows_listed(row, Listed(names, table_for(row, names, yes=[]))), False)


class Wrong(unittest.TestCase):
    def test_a_rule_or_a_yes_changed(self):
        for row in rows():
            for names in names_in_orders(row)[:2]:
                table = table_for(row, names)
                for at, (key, worth) in enumerate(table.rules):
                    for other in range(len(names)):
                        rules = dict(table.rules)
                        rules[key] = other
                        made = Table(table.ways, table.letters, table.worths, rules, table.yes)
                        self.assertIs(shows_listed(row, Listed(names, made)), other == worth, (key, other))
                    rules = [rule for rule in table.rules if rule[0] != key]
                    made = Table(table.ways, table.letters, table.worths, rules, table.yes)
                    self.assertIs(shows_listed(row, Listed(names, made)), worth == key[1])
                for number in range(len(names)):
                    yes = [worth for worth in range(len(names)) if (worth in table.yes) != (worth == number)]
                    self.assertIs(shows_listed(row, Listed(names, table_for(row, names, yes=yes))), False)

    def test_ways_letters_or_worths_changed(self):
        for row in rows():
            names = names_in_orders(row)[0]
            table = table_for(row, names)
            more = Table(table.ways, table.letters, table.worths + 1, table.rules, table.yes)
            self.assertIs(shows_listed(row, Listed(names, more)), False)
            for letters in range(1, len(names) + 1):
                made = Table(table.ways, letters, table.worths, table.rules, table.yes)
                self.assertIs(shows_listed(row, Listed(names, made)), letters == table.letters)
        for row, other in ((FIRST, Table(1, 2, 2, [], [1])), (Table(1, 2, 2, [], [1]), FIRST)):
            self.assertIs(shows_listed(row, Listed((0, 1), row)), True)
            self.assertIs(shows_listed(row, Listed((0, 1), other)), False)

    def test_names(self):
        for row in rows():
            names = names_in_orders(row)[0]
            table = table_for(row, names)
            spoilt = [names[:at] + names[at + 1:] for at in range(len(names))]
            spoilt += [names[:at] + names[at:at + 1] + names[at:] for at in range(len(names))]
            spoilt += [names[:at] + (new,) + names[at + 1:] for at in range(len(names)) for new in (
                None, 9, -1, (), ((),), "0", 1.0, ODD, {}, HUGE, (9, 9), *[name for name in names if name != names[at]])]
            spoilt += [names + (new,) for new in (None, 9, (0, 2))] + [(), names[::-1] if len(names) > 1 else (7,)]
            spoilt += [names[:at] + (names[other],) + names[at + 1:other] + (names[at],) + names[other + 1:]
                       for at, other in itertools.combinations(range(len(names)), 2) if at < row.letters]
            for value in spoilt:
                self.assertIs(shows_listed(row, Listed(value, table)), False, value)
                if 1 <= len(value) <= 12 and len(value) >= row.letters:
                    made = Table(row.ways, row.letters, len(value), [], [])
                    self.assertIs(shows_listed(row, Listed(value, made)), False, value)

    def test_names_exchanged_behind_the_letters(self):
        row = Table(2, 1, 3, {(None, 0, None): 1, (None, 1, None): 2}, [2])
        table = table_for(row, (0, 1, 2))
        self.assertIs(shows_listed(row, Listed((0, 1, 2), table)), True)
        self.assertIs(shows_listed(row, Listed((0, 2, 1), table)), False)

    def test_letters_that_do_not_stand_in_front(self):
        wrong = 0
        for row in rows():
            right = names_in_orders(row)
            for names in itertools.islice(itertools.permutations(right[0]), 30):
                self.assertIs(shows_listed(row, Listed(names, table_for(row, names))), names in right)
                wrong += names not in right
        self.assertGreater(wrong, 20)

    def test_worths_that_no_row_comes_to(self):
        row = Table(2, 2, 3, [], [1])
        self.assertIs(shows_listed(row, Listed((0, 1), Table(2, 2, 2, [], [1]))), True)
        self.assertIs(shows_listed(row, Listed((0, 1, 2), row)), False)

    def test_true_is_no_one(self):
        table = Table(2, 2, 2, [], [1])
        for names in ((False, 1), (0, True), (False, True)):
            self.assertIs(shows_listed(FIRST, Listed(names, table)), False, names)
        row = Both(FIRST, SOME)
        paper = listed(row, 12)
        for at, name in enumerate(paper.names):
            for part in (0, 1):
                spoilt = list(name)
                spoilt[part] = bool(spoilt[part])
                names = [*paper.names[:at], spoilt, *paper.names[at + 1:]]
                self.assertIs(shows_listed(row, Listed(names, paper.table)), False, names)

    def test_parts_of_other_kinds(self):
        row = Both(SOME, Not(FIRST))
        paper = listed(row, 4)
        deep = 0
        for _ in range(29):
            deep = [deep]
        for value in (*NO_LISTS, *NO_INTEGERS, 0, HUGE, Raises(), [Raises()] * 3, [(0, 0), (1, 1), Raises()], [deep] * 3, {0: 1}, range(3),
                      [(0, 0), (1, 1), {}], [(0, 0), (1, 1), (1, ODD)], [(0, 0), (1, 1), (1, 0.0)], paper, row, [paper.names]):
            self.assertIs(shows_listed(row, Listed(value, paper.table)), False)
        for value in (*NO_LISTS, *NO_INTEGERS, 0, HUGE, Raises(), row, paper, [paper.table], str(paper.table), Table, deep):
            self.assertIs(shows_listed(row, Listed(paper.names, value)), False)
        self.assertIs(shows_listed(row, Listed(paper.table, paper.names)), False)
        self.assertIs(shows_listed(row, Listed(None, None)), False)

    def test_values_of_other_classes(self):
        row = Both(SOME, Not(FIRST))
        paper = listed(row, 4)
        for value in (*NO_INTEGERS, 0, HUGE, "listed", Raises(), row, paper.table, paper.names, (paper.names, paper.table), [paper], Listed,
                      Paper("listed", paper.names, paper.table), Denial("listed", paper.names, paper.table),
                      Same(paper.names, paper.table)):
            self.assertIs(shows_listed(row, value), False)

    def test_papers_of_other_rows(self):
        made = rows()
        for row, other in itertools.product(made, repeat=2):
            paper = listed(other, 12)
            again = Table(paper.table.ways, paper.table.letters, paper.table.worths,
                          [rule for rule in paper.table.rules if rule[0][1] != rule[1]], paper.table.yes)
            right = paper.names in names_in_orders(row) and again == table_for(row, paper.names, keep=False)
            self.assertIs(shows_listed(row, paper), right)

    def test_rows_with_more_worths(self):
        turns = Table(2, 1, 12, {(None, own, None): own + 1 for own in range(11)}, [11])
        row = Both(turns, Table(2, 1, 2, {(None, 0, None): 1, (None, 1, None): 0}, []))
        self.assertEqual(len(come_to(row)), 13)
        names = sorted(come_to(row))
        for value in (Listed(names, turns), Listed(names[:12], turns), listed(turns, 12), None):
            self.assertIs(shows_listed(row, value), False)
        self.assertIs(shows_listed(OneWay(TwoWays(OneWay(SOME))), listed(SOME, 12)), False)

    def test_by_chance(self):
        chance = random.Random(5)
        for row in rows():
            names = names_in_orders(row)[-1]
            table = table_for(row, names)
            for _ in range(30):
                rules = {key: chance.randrange(len(names)) if chance.random() < 0.05 else worth for key, worth in table.rules}
                made = Table(table.ways, table.letters, table.worths, rules, table.yes)
                self.assertIs(shows_listed(row, Listed(names, made)), rules == dict(table.rules))


class Errors(unittest.TestCase):
    def test_no_row(self):
        for row in BAD_ROWS:
            for value in (None, listed(FIRST, 2), 5):
                self.assertEqual(error_of(shows_listed, row, value), ("BadRow", "row"))

    def test_letters_that_begin_alike(self):
        row = Renamed(SOME, [0, 0, 1])
        for value in (None, listed(SOME, 12), Listed((0, 0, 1), SOME), 5, ODD):
            self.assertEqual(error_of(shows_listed, row, value), ("Misfit", "letters"))
            self.assertEqual(error_of(shows_listed, OneWay(row), value), ("Misfit", "letters"))


if __name__ == "__main__":
    unittest.main()
