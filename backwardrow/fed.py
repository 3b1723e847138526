"""Fed rows: rows of two ways that are told of each word by what an eater takes, with its stacks along the cells."""

from backwardrow.eaters import demand_eater, moved, top_of
from backwardrow.rows import Row

# So many signs of a stack a cell has at most; one that has them all sends its lowest sign on.
MOST_SIGNS = 3


class Fed(Row):
    """The fed row of an eater.

    A worth is (letter, state, stacks): the letter that stands in the cell at this tick, None behind the last
    one; for cell 0 the state ahead of this letter, None if the eater is stuck, and in all other cells; and
    of each stack, as it is ahead of this letter, the signs that lie in this cell, the upper ones first.
    """

    def __init__(self, eater):
        demand_eater(eater, "eater")
        self.eater = eater
        self.letters = eater.letters
        self.ways = 2

    def begin(self, letter):
        """Each cell begins as cell 0 does: a cell hears only at the next tick whether it is that one."""
        return (letter, 0, ((),) * self.eater.stacks)

    def next(self, left, own, right):
        """The right one's letter, and what is left of the stacks when signs have moved on."""
        letter = None if right is None else right[0]
        kept = [kept_signs(signs, () if right is None else right[2][at]) for at, signs in enumerate(own[2])]
        if left is not None:
            stacks = [fed_signs(left[2][at], own[2][at], signs) for at, signs in enumerate(kept)]
            return (letter, None, tuple(stacks))
        doing = doing_in(self.eater, own)
        if doing is None:
            return (letter, None, tuple(kept))
        return (letter, doing[0], tuple([moved(signs, move) for signs, move in zip(kept, doing[1])]))

    def says(self, worth):
        """Whether the eater takes the word that ends with this letter."""
        doing = doing_in(self.eater, worth)
        return doing is not None and doing[0] in self.eater.yes

    def __eq__(self, other):
        return isinstance(other, Fed) and self.eater == other.eater


def doing_in(eater, worth):
    """What the eater does with the letter of cell 0, None if it does nothing with it."""
    letter, state, stacks = worth
    if letter is None or state is None:
        return None
    return eater.doing(state, letter, tuple([top_of(signs) for signs in stacks]))


def kept_signs(own, right):
    """The signs of a cell when its lowest one has moved right, or the right one's top has come below its own."""
    if len(own) == MOST_SIGNS:
        return own[:-1]
    return own + right[:1] if len(own) < MOST_SIGNS - 1 else own


def fed_signs(left, own, kept):
    """What a cell keeps, when the left one's lowest sign has come on top, or its own top has moved left."""
    if len(left) == MOST_SIGNS:
        return left[-1:] + kept
    return kept[1:] if len(left) < MOST_SIGNS - 1 and len(own) > 0 else kept
