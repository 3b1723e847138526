"""Whether any value is a right paper of a listed row."""

from backwardrow.checks import is_integer
from backwardrow.demands import demand_row
from backwardrow.listed import MOST_WORTHS, Listed, demand_unlike_begins, worths_told
from backwardrow.tables import Table


def shows_listed(row, value):
    """Whether a value is a right Listed of a row."""
    demand_row(row, "row")
    demand_unlike_begins(row)
    if not isinstance(value, Listed):
        return False
    worths, steps = worths_told(row, MOST_WORTHS)
    if len(worths) > MOST_WORTHS or not names_right(row, worths, value.names):
        return False
    return table_right(row, value.table, worths, steps, value.names)


def names_right(row, worths, names):
    """Whether names are just the worths, those with which the letters begin in front."""
    if not isinstance(names, tuple) or len(names) != len(worths) or not is_worth(names):
        return False
    if names[:row.letters] != tuple(worths[:row.letters]):
        return False
    return all([worth in names for worth in worths])


def is_worth(value):
    """Whether a value is made as worths are: of integers, None and tuples of such."""
    if isinstance(value, tuple):
        return all([is_worth(part) for part in value])
    return value is None or is_integer(value)


def table_right(row, table, worths, steps, names):
    """Whether a table goes on and says with the numbers of names as the row does with its worths."""
    if not isinstance(table, Table) or table.ways != row.ways:
        return False
    if table.letters != row.letters or table.worths != len(worths):
        return False
    numbers = [names.index(worth) for worth in worths]
    for key in steps:
        near = [None if number is None else numbers[number] for number in key]
        if table.next(near[0], near[1], near[2] if row.ways == 2 else None) != numbers[steps[key]]:
            return False
    return all([table.says(numbers[at]) == bool(row.says(worth)) for at, worth in enumerate(worths)])
