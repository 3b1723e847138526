"""Two ways of one way: a row that does in n ticks what a row of one way does in 2 n, folded at its left end."""

from backwardrow.demands import demand_number, demand_row
from backwardrow.errors import Misfit
from backwardrow.rows import Row

# What is told of cells that the inner row does not have, right of its last one.
BEYOND = ()


class TwoWays(Row):
    """The row of two ways that is made of a row of one way."""

    def __init__(self, row):
        demand_row(row, "row")
        if row.ways != 1:
            raise Misfit("ways")
        self.row = row
        self.letters = row.letters
        self.ways = 2

    def begin(self, letter):
        """Each cell has one inner cell as its own, and none folded."""
        return (self.row.begin(letter), None)

    def next(self, left, own, right):
        """The own comes from the right and the folded from the left; at cell 0 the own is folded."""
        on_right = BEYOND if right is None else right[0]
        right_folded = None if right is None else right[1]
        left_own, on_left = (own[1], own[0]) if left is None else left
        return (two(self.row, left_own, own[0], on_right), two(self.row, right_folded, own[1], on_left))

    def says(self, worth):
        """Whether the inner row says yes to what own becomes beside folded."""
        own, folded = worth
        if own is None or own == BEYOND:
            return False
        return bool(self.row.says(self.row.next(folded, own, None)))

    def __eq__(self, other):
        return isinstance(other, TwoWays) and self.row == other.row


def two(row, far, near, worth):
    """What a worth becomes in two ticks of the row of one way, beside near, which stands beside far."""
    if far == BEYOND or near == BEYOND or worth == BEYOND:
        return BEYOND
    if worth is None:
        return None
    beside = None if near is None else row.next(far, near, None)
    return row.next(beside, row.next(near, worth, None), None)


def fold(cell, tick):
    """Where and when the inner row has what the own of a cell is at a tick."""
    demand_number(cell, 0, None, "cell")
    demand_number(tick, 0, None, "tick")
    return (cell + tick, 2 * tick)


def unfold(cell, tick):
    """Where and when a worth of the inner row's cell stands in the folded row, None for an odd tick."""
    demand_number(cell, 0, None, "cell")
    demand_number(tick, 0, None, "tick")
    if tick % 2 == 1:
        return None
    when = tick // 2
    if cell >= when:
        return (cell - when, when, "own")
    return (when - 1 - cell, when, "folded")
