"""Tables: rows that are listed."""

from backwardrow.checks import is_within
from backwardrow.errors import BadTable
from backwardrow.lists import is_lot, key_rank, pairs_told
from backwardrow.rows import Row
from backwardrow.table_texts import table_lines, table_told


class Table(Row):
    """A row whose worths are numbers, with a listed next worth for each key that has a rule."""

    def __init__(self, ways, letters, worths, rules, yes):
        if not is_within(ways, 1, 2):
            raise BadTable("ways")
        if not is_within(letters, 1, 6):
            raise BadTable("letters")
        if not is_within(worths, letters, 12):
            raise BadTable("worths")
        steps = steps_told(rules, ways, worths)
        if steps is None:
            raise BadTable("rules")
        if not is_lot(yes, worths):
            raise BadTable("yes")
        self.ways = ways
        self.letters = letters
        self.worths = worths
        self.rules = tuple([(key, steps[key]) for key in sorted(list(steps), key=key_rank)])
        self.yes = tuple(sorted(yes))
        self._steps = steps

    def begin(self, letter):
        """The worth of the letter's number."""
        return letter

    def next(self, left, own, right):
        """The worth that the rule of the key tells; without a rule a cell keeps its own."""
        # With one way right may be any value, even one that can be no part of a key.
        key = (left, own) if self.ways == 1 else (left, own, right)
        return self._steps.get(key, own)

    def says(self, worth):
        """Whether the worth is one of those that say yes."""
        return worth in self.yes

    def __eq__(self, other):
        if not isinstance(other, Table):
            return False
        if self.ways != other.ways or self.letters != other.letters or self.worths != other.worths:
            return False
        return self.rules == other.rules and self.yes == other.yes

    def __str__(self):
        return "\n".join(table_lines(self))

    @staticmethod
    def read(text):
        """The table whose text this is."""
        ways, letters, worths, rules, yes = table_told(text)
        return Table(ways, letters, worths, rules, yes)


def steps_told(rules, ways, worths):
    """The next worths by their keys, None for what are no rules."""
    pairs = pairs_told(rules)
    if pairs is None:
        return None
    steps = {}
    for key, worth in pairs:
        if not is_key(key, ways, worths) or not is_within(worth, 0, worths - 1):
            return None
        steps[tuple(key)] = worth
    return steps if len(steps) == len(pairs) else None


def is_key(value, ways, worths):
    """Whether a value is a key of a table of so many ways and worths."""
    if not isinstance(value, (list, tuple)) or len(value) != ways + 1:
        return False
    # The cell itself, which stands at 1, is never a border.
    return all([(worth is None and at != 1) or is_within(worth, 0, worths - 1) for at, worth in enumerate(value)])
