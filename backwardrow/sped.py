"""Rows sped: cell 0 stands for the worths of another row's cell 0, at a part of the ticks behind the last letter.

Inner cells and ticks lie on diagonals, a diagonal being the sum of both. What stands on a diagonal comes of the
right neighbour on the same one, of the cell itself one before, and of the left neighbour two before.
"""

from backwardrow.checks import MOST_IN_WORD
from backwardrow.demands import demand_number, demand_row
from backwardrow.errors import Misfit
from backwardrow.rows import Row

LEAST_BY = 2
MOST_BY = 4


class Sped(Row):
    """The row sped by a number.

    A worth is (letter, pack): the letter that stands in the cell at this tick, None behind the last one; and for
    each inner cell of the pack its worths on the last diagonals, the latest one first. The pack is () as long as
    the cell has not heard that its left neighbour has the whole of its own; if it has one all the same, it is
    this letter alone. While letters come the latest diagonal is the number of the letter, from then on it grows
    by the number by which the row is sped; so it needs not be kept, and neighbours know one another's.
    """

    def __init__(self, row, by):
        demand_row(row, "row")
        demand_number(by, LEAST_BY, MOST_BY, "by")
        if row.ways != 2:
            raise Misfit("ways")
        self.row = row
        self.by = by
        self.letters = row.letters
        self.ways = 2

    def begin(self, letter):
        """Each cell begins as cell 0 does, with its letter alone."""
        return (letter, ())

    def next(self, left, own, right):
        """The right one's letter, and what can be reckoned of the pack with it, or with knowing that there is none."""
        letter = None if right is None else right[0]
        pack = self._pack_heard(left, own)
        if pack == ():
            return (letter, ())
        steps = self.by if letter is None else 1
        many = len(pack)
        latest = -self.by if own[0] is None else -1
        known = {}
        lay(known, pack, 0, 0)
        if left is not None:
            lay(known, left[1], -self.by, latest)
        if letter is not None and (many < self.by or right[1] == ()):
            known[(many, 1)] = self.row.begin(letter)
        elif right is not None:
            lay(known, right[1][:1], self.by, steps)
        self._reckon(known, many, latest, steps)
        if letter is not None:
            many = min(many + 1, self.by)
        return (letter, tuple([self._trail(known, at, steps) for at in range(many)]))

    def says(self, worth):
        """Whether the inner row says yes with the worth that this one stands for."""
        inner_worth = self.inner(worth)
        return inner_worth is not None and bool(self.row.says(inner_worth))

    def inner(self, worth):
        """The worth of the inner row for which this one stands, None for a cell that has no inner cells."""
        letter, pack = worth
        if pack != ():
            return pack[0][0]
        return None if letter is None else self.row.begin(letter)

    def _pack_heard(self, left, own):
        """The pack that a cell has had, as it hears of it now."""
        letter, pack = own
        if pack != () or letter is None:
            return pack
        if left is None or len(left[1]) == self.by:
            return ((self.row.begin(letter),),)
        return ()

    def _reckon(self, known, many, latest, steps):
        """Put all that can be reckoned into what is known, by inner cell and diagonal.

        Inner cells count from the first one of the pack, those of the left pack below 0; diagonals from the
        latest one of this pack. The left pack is known up to the diagonal latest. Of its inner cells each is
        reckoned as far as its right neighbour needs it: so the outermost one not at all.
        """
        for diagonal in range(latest + 1, steps + 1):
            top = many - 1 if diagonal > 0 else -1
            for at in range(top, -((steps - diagonal) // 2) - 1, -1):
                own = known.get((at, diagonal - 1))
                # Inner cells of a left pack may be missing: at the border, and beside worths that never stand so.
                if own is not None:
                    left = known.get((at - 1, diagonal - 2))
                    known[(at, diagonal)] = self.row.next(left, own, known.get((at + 1, diagonal)))

    def _trail(self, known, at, steps):
        """The worths of an inner cell that are kept: its left neighbour wants as many of the first one."""
        last = steps - (self.by if at == 0 else 2)
        places = [(at, diagonal) for diagonal in range(steps, last, -1)]
        return tuple([known[place] for place in places if place in known])

    def __eq__(self, other):
        return isinstance(other, Sped) and self.by == other.by and self.row == other.row


def lay(known, trails, first, latest):
    """Put the worths of inner cells into what is known, from this inner cell and this diagonal on."""
    for at, trail in enumerate(trails):
        for age, worth in enumerate(trail):
            known[(first + at, latest - age)] = worth


def inner_tick(many, by, tick):
    """The tick of the inner row for whose worth cell 0 stands at a tick."""
    demand_sped(many, by, tick)
    return tick if tick < many else many - 1 + by * (tick - many + 1)


def cut_tick(many, by, tick):
    """The least tick at which cell 0 stands for a worth of this tick of the inner row, or of a later one."""
    demand_sped(many, by, tick)
    return tick if tick < many else many - 1 + (tick - many + by) // by


def demand_sped(many, by, tick):
    """Raise the errors for numbers of letters, of speed and of ticks."""
    demand_number(many, 1, MOST_IN_WORD, "many")
    demand_number(by, LEAST_BY, MOST_BY, "by")
    demand_number(tick, 0, None, "tick")
