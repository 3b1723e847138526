"""Rows and tables for the tests, made by chance from a fixed seed, and strips reckoned by the tests themselves."""

import itertools
import random

from backwardrow.rows import Row
from backwardrow.tables import Table


def keys_of(ways, worths):
    """All keys of a table of so many ways and worths, ascending."""
    near = [None, *range(worths)]
    if ways == 1:
        return [(left, own) for left in near for own in range(worths)]
    return [(left, own, right) for left in near for own in range(worths) for right in near]


def parts_by_chance(seed, ways=None):
    """The five parameters of a right table."""
    chance = random.Random(seed)
    ways = ways or chance.choice((1, 2))
    letters = chance.randint(1, 3)
    worths = chance.randint(letters, 5)
    keys = [key for key in keys_of(ways, worths) if chance.random() < 0.7]
    chance.shuffle(keys)
    rules = [(key, chance.randrange(worths)) for key in keys]
    yes = [worth for worth in range(worths) if chance.random() < 0.4]
    return ways, letters, worths, rules, yes


def table_by_chance(seed, ways=None):
    return Table(*parts_by_chance(seed, ways))


def words_over(letters, longest):
    """All words of 1 to longest letters."""
    return [word for many in range(1, longest + 1) for word in itertools.product(range(letters), repeat=many)]


def strip_by_hand(table, word, ticks):
    """The strip of a table, by its rules alone, cell by cell."""
    rules = dict(table.rules)
    lines = [list(word)]
    for tick in range(ticks):
        line = []
        for cell in range(len(word)):
            left = lines[tick][cell - 1] if cell > 0 else None
            right = lines[tick][cell + 1] if cell < len(word) - 1 else None
            own = lines[tick][cell]
            key = (left, own, right) if table.ways == 2 else (left, own)
            line.append(rules[key] if key in rules else own)
        lines.append(line)
    return lines


def told_by_hand(table, word):
    """Whether a table tells a word yes, by its strip by hand."""
    if table.ways == 2:
        worth = strip_by_hand(table, word, len(word) - 1)[-1][0]
    else:
        worth = strip_by_hand(table, word, 2 * len(word) - 1)[-1][-1]
    return worth in table.yes


class Shows(Row):
    """A row whose worths show what it was asked, so that places and the order of asking are seen."""

    def __init__(self, letters, ways, falls=()):
        self.letters = letters
        self.ways = ways
        self.falls = falls

    def begin(self, letter):
        return ("at", letter)

    def next(self, left, own, right):
        if self.ways == 1:
            right = "any"
        return ("from", depth_of(left), depth_of(own), depth_of(right), sum_of((left, own, right)))

    def says(self, worth):
        return sum_of(worth) in self.falls


def depth_of(worth):
    """What is seen of a neighbour: None for a border, else a number of it."""
    return worth if worth is None or worth == "any" else sum_of(worth)


def sum_of(worth):
    """A number that hangs on all of a worth and on the places of its parts."""
    if isinstance(worth, tuple):
        total = 7
        for at, part in enumerate(worth):
            total = (total * 31 + (at + 1) * sum_of(part)) % 997
        return total
    if worth is None:
        return 911
    return worth if isinstance(worth, int) else len(worth)


def strip_of(row, word, ticks):
    """The strip of any row, by what its methods answer, cell by cell."""
    lines = [[row.begin(letter) for letter in word]]
    for tick in range(ticks):
        line = lines[tick]
        lines.append([
            row.next(line[cell - 1] if cell > 0 else None, line[cell], line[cell + 1] if cell + 1 < len(line) else None)
            for cell in range(len(line))])
    return lines


def told_of(row, word):
    """Whether any row tells a word yes, by its strip."""
    if row.ways == 2:
        return bool(row.says(strip_of(row, word, len(word) - 1)[-1][0]))
    return bool(row.says(strip_of(row, word, 2 * len(word) - 1)[-1][-1]))


def come_to(row, most=40):
    """All worths that a row can come to, None if there are more than most."""
    found = {row.begin(letter) for letter in range(row.letters)}
    while len(found) <= most:
        near = [None, *found]
        rights = near if row.ways == 2 else [None]
        further = {row.next(left, own, right) for left in near for own in found for right in rights}
        if further <= found:
            return found
        found |= further
    return None
