"""Rows and tables for the tests, made by chance from a fixed seed, and strips reckoned by the tests themselves."""

import itertools
import random

from backwardrow.rows import Row
from backwardrow.tables import Table


def keys_of(ways, worths):
    """All keys of a table of so many ways and worths, ascending."""
    near = [None, *range(worths)]
    if ways == 1:
        return [(left, own) for left in near for own in range(worths)]
    return [(left, own, right) for left in near for own in range(worths) for right in near]


def parts_by_chance(seed, ways=None):
    """The five parameters of a right table."""
    chance = random.Random(seed)
    ways = ways or chance.choice((1, 2))
    letters = chance.randint(1, 3)
    worths = chance.randint(letters, 5)
    keys = [key for key in keys_of(ways, worths) if chance.random() < 0.7]
    chance.shuffle(keys)
    rules = [(key, chance.randrange(worths)) for key in keys]
    yes = [worth for worth in range(worths) if chance.random() < 0.4]
    return ways, letters, worths, rules, yes


def table_by_chance(seed, ways=None):
    return Table(*parts_by_chance(seed, ways))


def words_over(letters, longest):
    """All words of 1 to longest letters."""
    return [word for many in range(1, longest + 1) for word in itertools.product(range(letters), repeat=many)]


def strip_by_hand(table, word, ticks):
    """The strip of a table, by its rules alone, cell by cell."""
    rules = dict(table.rules)
    lines = [list(word)]
    for tick in range(ticks):
        line = []
        for cell in range(len(word)):
            left = lines[tick][cell - 1] if cell > 0 else None
            right = lines[tick][cell + 1] if cell < len(word) - 1 else None
            own = lines[tick][cell]
            key = (left, own, right) if table.ways == 2 else (left, own)
            line.append(rules[key] if key in rules else own)
        lines.append(line)
    return lines


def told_by_hand(table, word):
    """Whether a table tells a word yes, by its strip by hand."""
    if table.ways == 2:
        worth = strip_by_hand(table, word, len(word) - 1)[-1][0]
    else:
        worth = strip_by_hand(table, word, 2 * len(word) - 1)[-1][-1]
    return worth in table.yes


class Shows(Row):
    """A row whose worths show what it was asked, so that places and the order of asking are seen."""

    def __init__(self, letters, ways, falls=()):
        self.letters = letters
        self.ways = ways
        self.falls = falls

    def begin(self, letter):
        return ("at", letter)

    def next(self, left, own, right):
        if self.ways == 1:
            right = "any"
        return ("from", depth_of(left), depth_of(own), depth_of(right), sum_of((left, own, right)))

    def says(self, worth):
        return sum_of(worth) in self.falls


def depth_of(worth):
    """What is seen of a neighbour: None for a border, else a number of it."""
    return worth if worth is None or worth == "any" else sum_of(worth)


def sum_of(worth):
    """A number that hangs on all of a worth and on the places of its parts."""
    if isinstance(worth, tuple):
        total = 7
        for at, part in enumerate(worth):
            total = (total * 31 + (at + 1) * sum_of(part)) % 997
        return total
    if worth is None:
        return 911
    return worth if isinstance(worth, int) else len(worth)


def strip_of(row, word, ticks):
    """The strip of any row, by what its methods answer, cell by cell."""
    lines = [[row.begin(letter) for letter in word]]
    for tick in range(ticks):
        line = lines[tick]
        lines.append([
            row.next(line[cell - 1] if cell > 0 else None, line[cell], line[cell + 1] if cell + 1 < len(line) else None)
            for cell in range(len(line))])
    return lines


def told_of(row, word):
    """Whether any row tells a word yes, by its strip."""
    if row.ways == 2:
        return bool(row.says(strip_of(row, word, len(word) - 1)[-1][0]))
    return bool(row.says(strip_of(row, word, 2 * len(word) - 1)[-1][-1]))


def come_to(row, most=40):
    """All worths that a row can come to, None if there are more than most."""
    found = {row.begin(letter) for letter in range(row.letters)}
    while len(found) <= most:
        near = [None, *found]
        rights = near if row.ways == 2 else [None]
        further = {row.next(left, own, right) for left in near for own in found for right in rights}
        if further <= found:
            return found
        found |= further
    return None


def eater_parts_by_chance(seed):
    """The five parameters of a right eater, pushes and pops being likely."""
    chance = random.Random(seed)
    letters, states, stacks = chance.randint(1, 3), chance.randint(1, 4), seed % 3
    rules = []
    for state, letter in itertools.product(range(states), range(letters)):
        for tops in itertools.product((None, 0, 1, 2, 3), repeat=stacks):
            if chance.random() < 0.93:
                moves = [move_by_chance(chance, top) for top in tops]
                rules.append(((state, letter, tops), (chance.randrange(states), moves)))
    chance.shuffle(rules)
    return letters, states, stacks, rules, [state for state in range(states) if chance.random() < 0.5]


def move_by_chance(chance, top):
    fate = chance.random()
    if fate < 0.5 or (fate < 0.85 and top is None):
        return ("push", chance.randrange(4))
    return "pop" if fate < 0.85 else None


def eaten_by_hand(parts, word):
    """What an eater of these parameters has behind a word: its state and its stacks, or None."""
    _, _, stacks, rules, _ = parts
    state, piles = 0, [[] for _ in range(stacks)]
    for letter in word:
        tops = tuple(pile[-1] if pile else None for pile in piles)
        found = [done for key, done in rules if (key[0], key[1], tuple(key[2])) == (state, letter, tops)]
        if not found:
            return None
        state = found[0][0]
        for pile, move in zip(piles, found[0][1]):
            if move == "pop":
                pile.pop()
            elif move is not None:
                pile.append(move[1])
    return (state, tuple(tuple(pile[::-1]) for pile in piles))


def taken_by_hand(parts, word):
    """Whether an eater of these parameters takes a word."""
    held = eaten_by_hand(parts, word)
    return held is not None and held[0] in parts[4]


def evens_parts():
    """An eater of some letters 0 and then as many letters 1: the lowest sign is a 0, all others are 1."""
    rules = [((0, 0, (None,)), (0, (("push", 0),))), ((0, 0, (0,)), (0, (("push", 1),))), ((0, 0, (1,)), (0, (("push", 1),)))]
    rules += [((0, 1, (0,)), (2, ("pop",))), ((0, 1, (1,)), (1, ("pop",)))]
    rules += [((1, 1, (0,)), (2, ("pop",))), ((1, 1, (1,)), (1, ("pop",)))]
    return 2, 3, 1, rules, [2]


def turning_parts():
    """An eater with two stacks: letter 0 pushes signs by turns, 1 brings one over, 2 takes one off again."""
    rules = []
    for state in range(4):
        for first, second in itertools.product((None, 0, 1, 2, 3), repeat=2):
            rules.append(((state, 0, (first, second)), ((state + 1) % 4, (("push", state), None))))
            if first is not None:
                rules.append(((state, 1, (first, second)), (first, ("pop", ("push", first)))))
            if second is not None:
                rules.append(((state, 2, (first, second)), (second, (None, "pop"))))
    return 3, 4, 2, rules, [1, 2]


def only_small(worth, depth=0):
    """Whether a worth is of integers within a million, None and tuples of such; a whole one is not None."""
    if isinstance(worth, tuple):
        return all(only_small(part, depth + 1) for part in worth)
    if worth is None:
        return depth > 0
    return isinstance(worth, int) and not isinstance(worth, bool) and -10 ** 6 <= worth <= 10 ** 6
