"""The mirror row, of two ways: whether a word is the same read the other way round."""

from backwardrow.demands import demand_number
from backwardrow.rows import Row


class Mirror(Row):
    """The mirror row over so many letters.

    A worth is (coming, going, gone, single, double, answer), in cell c at tick t: coming and going are the
    letters c + t and c - t, gone is the letter that was going a tick ago, None where there is none; single
    and double are 1 as long as all letters around this cell, and around it and the right one, were
    mirrored; answer is 1 if a beginning of the word of which it tells is mirrored, 0 if not.
    """

    def __init__(self, letters):
        demand_number(letters, 1, 6, "letters")
        self.letters = letters
        self.ways = 2

    def begin(self, letter):
        """Each cell begins as cell 0 does, with a letter that is mirrored by itself."""
        return (letter, letter, None, 1, 1, 1)

    def next(self, left, own, right):
        """Both letters go on; when the first one has come by, the answers run to the left."""
        coming = None if right is None else right[0]
        going = None if left is None else left[1]
        gone = own[1]
        if gone is None:
            return (coming, None, None, 0, 0, answer_from(own, right))
        single = 1 if own[3] == 1 and coming == going else 0
        double = 1 if own[4] == 1 and coming == gone else 0
        # Behind the first letter nothing is going: it is settled what is mirrored around this cell and the right one.
        return (coming, going, gone, single, double, double if going is None else 0)

    def says(self, worth):
        """Whether the answer is that a beginning is mirrored."""
        return worth[5] == 1

    def __eq__(self, other):
        return isinstance(other, Mirror) and self.letters == other.letters


def answer_from(own, right):
    """The answer that comes from the right, to a cell that the first letter has left a tick ago, or longer."""
    if right is None:
        return 0
    # No cell knows the first letter while it stands there; but the cell that it left a tick ago knows its right one.
    return right[5] if own[2] is None else right[3]
