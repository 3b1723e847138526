"""Listed rows: tables made of the worths that a row can come to."""

from backwardrow.demands import demand_number, demand_row
from backwardrow.errors import Misfit, TooMany
from backwardrow.papers import Paper
from backwardrow.tables import Table

MOST_WORTHS = 12


class Listed(Paper):
    """All worths that a row can come to, and the table that goes on and says as the row does."""

    def __init__(self, names, table):
        super().__init__("listed", names, table)
        self.names = self.parts[0]
        self.table = self.parts[1]


def listed(row, most):
    """The row as a table, with the worths of the row for which its numbers stand."""
    demand_row(row, "row")
    demand_number(most, 1, MOST_WORTHS, "most")
    demand_unlike_begins(row)
    names, steps = worths_told(row, most)
    if len(names) > most:
        raise TooMany("worths", most)
    # A key at which a cell keeps its worth needs no rule.
    rules = [(key, steps[key]) for key in steps if steps[key] != key[1]]
    yes = [number for number, name in enumerate(names) if row.says(name)]
    return Listed(names, Table(row.ways, row.letters, len(names), rules, yes))


def demand_unlike_begins(row):
    """Raise Misfit if two letters of a row begin alike."""
    begins = [row.begin(letter) for letter in range(row.letters)]
    for at, worth in enumerate(begins):
        if worth in begins[:at]:
            raise Misfit("letters")


def worths_told(row, most):
    """The worths that a row can come to, and the number of the next one for each key of their numbers.

    If there are more than most worths, some more than most are told, and not all keys.
    """
    names = [row.begin(letter) for letter in range(row.letters)]
    steps = {}
    done = 0
    while done < len(names) and len(names) <= most:
        for key in keys_reaching(done, row.ways):
            worth = next_named(row, names, key)
            if worth not in names:
                names.append(worth)
            if len(names) > most:
                return names, steps
            steps[key] = names.index(worth)
        done += 1
    return names, steps


def keys_reaching(last, ways):
    """All keys of numbers up to last, and of borders, in which last stands."""
    near = [None] + list(range(last + 1))
    rights = near if ways == 2 else [None]
    keys = [(left, own, right) for left in near for own in range(last + 1) for right in rights]
    return [key[:ways + 1] for key in keys if last in key]


def next_named(row, names, key):
    """What the row tells for a key of numbers of worths."""
    beside = [None if number is None else names[number] for number in key]
    return row.next(beside[0], beside[1], beside[2] if row.ways == 2 else None)
