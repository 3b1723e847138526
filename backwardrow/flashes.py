"""Flashes: when cell 0 says yes; rows of signals that flash at told ticks; signals that are alone."""

from backwardrow.demands import demand_number
from backwardrow.errors import BadNumber
from backwardrow.runs import MOST_TICKS, strip
from backwardrow.signals import Signals, is_kind

MOST_CELL = 1000


def flashes(row, word, ticks):
    """The ticks, up to a last one, at which cell 0 says yes."""
    lines = strip(row, word, ticks)
    return tuple([tick for tick, worths in enumerate(lines) if row.says(worths[0])])


def squares():
    """The row that flashes for the word 1 2 0 0 .. at the squares: 1, 4, 9 and so on.

    Its kinds: 0 the flash, 1 what goes back left, 2 what stands, 3 what stands on its way to the next cell.
    """
    kinds = [(1, 1), (-1, 1), (0, 1), (1, 1)]
    meets = [([0, 2], [1, 3]), ([3], [2])]
    return Signals(kinds, meets, [[], [0], [], []], [[], [1], [2]], 0)


def doubles():
    """The row that flashes for the word 1 0 0 .. at the powers of 2 from 4 on.

    Its kinds: 0 the flash, 1 what goes back left, 2 the slow one, 3 what stays in cell 0 for a tick, 4 what the
    letter 1 begins as, beside the slow one: it waits until the first flash is due.
    """
    kinds = [(1, 1), (-1, 1), (1, 3), (-1, 1), (-1, 4)]
    return Signals(kinds, [([0, 2], [1, 2])], [[], [3], [], [0], [0]], [[], [2, 4]], 0)


def echoes():
    """The row that flashes, for words that begin with 1 and have 2 in one cell, as often as it is there and back.

    Its kinds: 0 the flash, 1 what goes left, 2 what stands, 3 what the flash leaves behind for a tick. By that, and
    by meeting what stands, what other letters 1 begin as goes before it comes to cell 0.
    """
    kinds = [(1, 1), (-1, 1), (0, 1), (0, 1)]
    meets = [([0], [0, 3]), ([0, 1], [0, 3]), ([3], []), ([1, 3], [])]
    meets = meets + [([0, 2], [1, 2]), ([0, 1, 2], [1, 2]), ([1, 2], [2])]
    return Signals(kinds, meets, [[], [0], [], []], [[], [1], [2]], 0)


def line_at(kind, cell, tick):
    """The cell of a signal alone that began in a cell, at a tick; None if it is over the left end by then."""
    demand_kind(kind, "kind")
    demand_number(cell, 0, MOST_CELL, "cell")
    demand_number(tick, 0, MOST_TICKS, "tick")
    spot = spot_at(kind, cell, tick)
    return spot if spot >= 0 else None


def meeting(one, place, other, spot):
    """The first tick at which two signals alone are in one cell, None if there is none."""
    demand_kind(one, "one")
    demand_number(place, 0, MOST_CELL, "place")
    demand_kind(other, "other")
    demand_number(spot, 0, MOST_CELL, "spot")
    if place > spot:
        return tick_of_meeting(other, spot, one, place)
    return tick_of_meeting(one, place, other, spot)


def tick_of_meeting(left, place, right, spot):
    """The first tick at which the left one of two signals is where the right one is, None if there is none."""
    # Where speeds, which are way / wait, let it come no nearer, it never does.
    if place < spot and left[0] * right[1] <= right[0] * left[1]:
        return None
    tick = 0
    near = place
    far = spot
    while 0 <= near < far:
        tick += 1
        near = spot_at(left, place, tick)
        far = spot_at(right, spot, tick)
    # If the left one is over the end now, the other one is not yet.
    return tick if near == far else None


def spot_at(kind, cell, tick):
    """The cell of a signal alone that began in a cell, at a tick; below 0 if it is over the left end."""
    way, wait = kind
    return cell + way * (tick // wait)


def demand_kind(value, part):
    """Raise BadNumber for what is no pair of a way and a wait."""
    if not is_kind(value):
        raise BadNumber(part)
