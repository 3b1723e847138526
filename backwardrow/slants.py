"""One way of two ways: a row whose last cell says what a row of two ways says, along a slant."""

from backwardrow.demands import demand_number, demand_row, demand_word
from backwardrow.errors import Misfit
from backwardrow.rows import Row
from backwardrow.runs import strip

# Where a worth begins with these its cell waits, or works.
WAITS = 0
WORKS = 1


class OneWay(Row):
    """The row of one way that is made of a row of two ways."""

    def __init__(self, row):
        demand_row(row, "row")
        if row.ways != 2:
            raise Misfit("ways")
        self.row = row
        self.letters = row.letters
        self.ways = 1

    def begin(self, letter):
        """Each cell waits, with the worth with which its letter begins."""
        return (WAITS, self.row.begin(letter))

    def next(self, left, own, right):
        """What a cell becomes; it begins to work at a border, or behind a cell that works."""
        hears = left is not None and left[0] == WORKS
        if own[0] == WAITS:
            if left is not None and not hears:
                return (WAITS, own[1])
            return (WORKS, own[1], None, left[2] if hears else None)
        now = own[1]
        if not hears or left[2] is None:
            return (WORKS, None, now, None)
        return (WORKS, self.row.next(left[3], left[2], now), now, left[2])

    def says(self, worth):
        """Whether the cell works and its now says yes in the inner row."""
        return worth[0] == WORKS and worth[1] is not None and bool(self.row.says(worth[1]))

    def __eq__(self, other):
        return isinstance(other, OneWay) and self.row == other.row


def slant(cell, tick):
    """Where and when the row of one way has what the inner row's cell has at a tick."""
    demand_number(cell, 0, None, "cell")
    demand_number(tick, 0, None, "tick")
    return (cell + tick, 2 * tick + cell + 1)


def unslant(cell, tick):
    """The cell and the tick that slant to these, None if there are none."""
    demand_number(cell, 0, None, "cell")
    demand_number(tick, 0, None, "tick")
    inner_tick = tick - cell - 1
    inner_cell = cell - inner_tick
    if inner_tick < 0 or inner_cell < 0:
        return None
    return (inner_cell, inner_tick)


def triangle(row, word):
    """The worths of a row of two ways, tick by tick a cell fewer, out of the strip of its OneWay."""
    demand_row(row, "row")
    demand_word(word, row.letters, "word")
    many = len(word)
    lines = strip(OneWay(row), word, 2 * many - 1)
    return tuple([now_line(lines, many - tick, tick) for tick in range(many)])


def now_line(lines, cells, tick):
    """What the first cells of the inner row have at a tick: the now of the cells to which they slant."""
    places = [slant(cell, tick) for cell in range(cells)]
    return tuple([lines[when][where][1] for where, when in places])
