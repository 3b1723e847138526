"""The errors of the package; their fields tell what was wrong.

The fields are kept as they were passed and never written out here: not every value can be shown.
"""


class RowError(ValueError):
    """The base of all errors of the package; it takes any values."""


class BadNumber(RowError):
    """No integer, or none within its bounds, or no list of such."""

    def __init__(self, part):
        self.part = part


class BadWord(RowError):
    """No word over the letters that are told."""

    def __init__(self, part):
        self.part = part


class BadRow(RowError):
    """No row of this package."""

    def __init__(self, part):
        self.part = part


class BadTable(RowError):
    """No table, or something of which none can be made."""

    def __init__(self, part):
        self.part = part


class BadEater(RowError):
    """No eater, or something of which none can be made."""

    def __init__(self, part):
        self.part = part


class BadSignals(RowError):
    """No row of signals, or something of which none can be made."""

    def __init__(self, part):
        self.part = part


class BadSaying(RowError):
    """No saying."""

    def __init__(self, part):
        self.part = part


class BadPaper(RowError):
    """No paper of the class that is wanted."""

    def __init__(self, part):
        self.part = part


class Misfit(RowError):
    """Values that are right each alone, and do not fit together."""

    def __init__(self, part):
        self.part = part


class NoName(RowError):
    """A name of nothing that is kept."""

    def __init__(self, value):
        self.value = value


class Twice(RowError):
    """A value that stands there already."""

    def __init__(self, value):
        self.value = value


class TooMany(RowError):
    """There are more than most."""

    def __init__(self, what, most):
        self.what = what
        self.most = most


class Nothing(RowError):
    """There is nothing to take back, or to do again."""


class BadText(RowError):
    """A text of no such value: the line and the item that cannot stand."""

    def __init__(self, line, item):
        self.line = line
        self.item = item


class BadLine(RowError):
    """The number of a line of a script, and the error that was raised there."""

    def __init__(self, line, error):
        self.line = line
        self.error = error
