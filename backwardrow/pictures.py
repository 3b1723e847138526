"""Pictures: strips as strings, with a sign for each cell."""

from backwardrow.demands import demand_word
from backwardrow.errors import BadTable, Misfit
from backwardrow.runs import strip
from backwardrow.slants import unslant
from backwardrow.tables import Table

# The sign of each worth that a table can have.
SIGNS = "0123456789ab"
YES = "#"
NO = "."
NOTHING = "."


def picture(row, word, ticks):
    """The strip of a word, with a sign for each worth that says yes and another one for all others."""
    lines = strip(row, word, ticks)
    return tuple(["".join([YES if row.says(worth) else NO for worth in worths]) for worths in lines])


def listing(table, word, ticks):
    """The strip of a word by a table, with the signs of the worths."""
    demand_table(table, "table")
    return tuple(["".join([SIGNS[worth] for worth in worths]) for worths in strip(table, word, ticks)])


def slanted(table, word):
    """The signs of the worths of a table of two ways, each where it slants to."""
    demand_table(table, "table")
    demand_word(word, table.letters, "word")
    if table.ways != 2:
        raise Misfit("ways")
    many = len(word)
    lines = strip(table, word, many - 1)
    return tuple(["".join([sign_at(lines, cell, tick) for cell in range(many)]) for tick in range(2 * many)])


def sign_at(lines, cell, tick):
    """The sign of the worth, out of the strip, that slants to a cell and a tick."""
    place = unslant(cell, tick)
    if place is None:
        return NOTHING
    return SIGNS[lines[place[1]][place[0]]]


def demand_table(value, part):
    """Raise BadTable for what is no table."""
    if not isinstance(value, Table):
        raise BadTable(part)
