"""Joined rows: not, both and either of rows, and rows with other letters."""

from backwardrow.checks import is_letter, is_within
from backwardrow.demands import demand_row
from backwardrow.errors import BadNumber, Misfit
from backwardrow.rows import Row


class Not(Row):
    """The row that says yes just when a row does not."""

    def __init__(self, row):
        demand_row(row, "row")
        self.row = row
        self.letters = row.letters
        self.ways = row.ways

    def begin(self, letter):
        """As the row begins."""
        return self.row.begin(letter)

    def next(self, left, own, right):
        """As the row goes on."""
        return self.row.next(left, own, right)

    def says(self, worth):
        """Whether the row does not say yes."""
        return not self.row.says(worth)

    def __eq__(self, other):
        return isinstance(other, Not) and self.row == other.row


class Both(Row):
    """The row that says yes when two rows do."""

    def __init__(self, one, other):
        demand_alike(one, other)
        self.one = one
        self.other = other
        self.letters = one.letters
        self.ways = one.ways

    def begin(self, letter):
        """The pair of what both begin as."""
        return (self.one.begin(letter), self.other.begin(letter))

    def next(self, left, own, right):
        """The pair of what both become, each by itself."""
        return next_pair(self.one, self.other, left, own, right)

    def says(self, worth):
        """Whether both say yes."""
        return bool(self.one.says(worth[0])) and bool(self.other.says(worth[1]))

    def __eq__(self, other):
        return isinstance(other, Both) and self.one == other.one and self.other == other.other


class Either(Row):
    """The row that says yes when one of two rows does, or both do."""

    def __init__(self, one, other):
        demand_alike(one, other)
        self.one = one
        self.other = other
        self.letters = one.letters
        self.ways = one.ways

    def begin(self, letter):
        """The pair of what both begin as."""
        return (self.one.begin(letter), self.other.begin(letter))

    def next(self, left, own, right):
        """The pair of what both become, each by itself."""
        return next_pair(self.one, self.other, left, own, right)

    def says(self, worth):
        """Whether one of them says yes."""
        return bool(self.one.says(worth[0])) or bool(self.other.says(worth[1]))

    def __eq__(self, other):
        return isinstance(other, Either) and self.one == other.one and self.other == other.other


class Renamed(Row):
    """The row whose letters begin as letters of another row."""

    def __init__(self, row, letters):
        demand_row(row, "row")
        if not isinstance(letters, (list, tuple)) or not is_within(len(letters), 1, 6):
            raise BadNumber("letters")
        if not all([is_letter(letter, row.letters) for letter in letters]):
            raise BadNumber("letters")
        self.row = row
        self.named = tuple(letters)
        self.letters = len(letters)
        self.ways = row.ways

    def begin(self, letter):
        """What the letter begins as that stands for this one."""
        return self.row.begin(self.named[letter])

    def next(self, left, own, right):
        """As the row goes on."""
        return self.row.next(left, own, right)

    def says(self, worth):
        """Whether the row says yes."""
        return bool(self.row.says(worth))

    def __eq__(self, other):
        return isinstance(other, Renamed) and self.named == other.named and self.row == other.row


def demand_alike(one, other):
    """Raise the errors for two rows that cannot be joined."""
    demand_row(one, "one")
    demand_row(other, "other")
    if one.ways != other.ways:
        raise Misfit("ways")
    if one.letters != other.letters:
        raise Misfit("letters")


def next_pair(one, other, left, own, right):
    """The pair of what two rows become, with pairs or borders beside."""
    # With one way right may be any value, even one that has no parts.
    beside = right if one.ways == 2 else None
    first = one.next(part_of(left, 0), own[0], part_of(beside, 0))
    return (first, other.next(part_of(left, 1), own[1], part_of(beside, 1)))


def part_of(worth, at):
    """A part of a pair; a border is one for both parts."""
    return None if worth is None else worth[at]
