"""Rows of signals: they stand or go along the cells, and become others where they meet."""

from backwardrow.checks import is_within
from backwardrow.errors import BadSignals
from backwardrow.lists import is_lot
from backwardrow.rows import Row
from backwardrow.signal_texts import MOST_BEGINS, MOST_KINDS, MOST_MEETS, MOST_WAIT, signal_lines, signals_told


class Signals(Row):
    """A row of two ways; a worth is the ascending tuple of the signals in a cell, each a pair (kind, waited)."""

    def __init__(self, kinds, meets, borders, begins, flash):
        if not is_list(kinds, 1, MOST_KINDS) or not all([is_kind(kind) for kind in kinds]):
            raise BadSignals("kinds")
        many = len(kinds)
        if not are_meets(meets, many):
            raise BadSignals("meets")
        if not is_list(borders, many, many) or not all([is_lot(lot, many) for lot in borders]):
            raise BadSignals("borders")
        if not is_list(begins, 1, MOST_BEGINS) or not all([is_lot(lot, many) for lot in begins]):
            raise BadSignals("begins")
        if not is_within(flash, 0, many - 1):
            raise BadSignals("flash")
        self.kinds = tuple([tuple(kind) for kind in kinds])
        self.meets = tuple(sorted([(lot_kept(first), lot_kept(second)) for first, second in meets]))
        self.borders = tuple([lot_kept(lot) for lot in borders])
        self.begins = tuple([lot_kept(lot) for lot in begins])
        self.flash = flash
        self.letters = len(begins)
        self.ways = 2
        self._seconds = {first: second for first, second in self.meets}

    def begin(self, letter):
        """The signals as which the letter begins; none of them has waited."""
        return tuple([(kind, 0) for kind in self.begins[letter]])

    def next(self, left, own, right):
        """The signals that stay or come, behind their meet if they have one."""
        # Nearly all cells have nothing nearly always, and then this is all that there is to do.
        if own == () and left in (None, ()) and right in (None, ()):
            return ()
        found = {}
        for kind, waited in own:
            for signal in self._staying(kind, waited, left is None):
                found[signal] = True
        for beside, way in ((left, 1), (right, -1)):
            if beside is not None:
                for kind, waited in beside:
                    if self.kinds[kind] == (way, waited + 1):
                        found[(kind, 0)] = True
        return self._met(sorted(found))

    def says(self, worth):
        """Whether the flash is among the signals."""
        return any([kind == self.flash for kind, _ in worth])

    def _staying(self, kind, waited, at_border):
        """What becomes of a signal in its own cell, at the left border or not."""
        way, wait = self.kinds[kind]
        if way == 0:
            return [(kind, 0)]
        if waited + 1 < wait:
            return [(kind, waited + 1)]
        return [(other, 0) for other in self.borders[kind]] if way == -1 and at_border else []

    def _met(self, signals):
        """The signals of a cell, given ascending, behind their meet."""
        first = tuple(sorted(set([kind for kind, _ in signals])))
        second = self._seconds.get(first)
        if second is None:
            return tuple(signals)
        stay = [signal for signal in signals if signal[0] in second]
        return tuple(sorted(stay + [(kind, 0) for kind in second if kind not in first]))

    def __eq__(self, other):
        if not isinstance(other, Signals) or self.kinds != other.kinds or self.meets != other.meets:
            return False
        return self.borders == other.borders and self.begins == other.begins and self.flash == other.flash

    def __str__(self):
        return "\n".join(signal_lines(self))

    @staticmethod
    def read(text):
        """The row of signals whose text this is."""
        kinds, meets, borders, begins, flash = signals_told(text)
        return Signals(kinds, meets, borders, begins, flash)


def is_list(value, least, most):
    """Whether a value is a list of least to most things."""
    return isinstance(value, (list, tuple)) and is_within(len(value), least, most)


def is_kind(value):
    """Whether a value is a pair of a way and a wait; what stands has a wait of 1."""
    if not is_list(value, 2, 2) or not is_within(value[0], -1, 1):
        return False
    return is_within(value[1], 1, 1 if value[0] == 0 else MOST_WAIT)


def are_meets(value, many):
    """Whether a value is a list of pairs of lots of so many kinds, the first ones unlike and not of none."""
    if not is_list(value, 0, MOST_MEETS) or not all([is_list(pair, 2, 2) for pair in value]):
        return False
    if not all([is_lot(first, many) and len(first) > 0 and is_lot(second, many) for first, second in value]):
        return False
    return len(set([lot_kept(first) for first, _ in value])) == len(value)


def lot_kept(lot):
    """A lot as it is kept: an ascending tuple."""
    return tuple(sorted(lot))
