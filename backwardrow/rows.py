"""The base of all rows."""


class Row:
    """What equal cells do with a word; nobody makes one of it alone.

    Each class below has the attributes letters and ways, and tells these three methods itself.
    """

    def begin(self, letter):
        """The worth that a cell has at tick 0, from its letter."""
        raise NotImplementedError("begin")

    def next(self, left, own, right):
        """The worth that a cell has at the next tick, None standing for a border."""
        raise NotImplementedError("next")

    def says(self, worth):
        """Whether a worth says yes."""
        raise NotImplementedError("says")
