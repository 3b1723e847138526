"""Runs: the strips of words, and what rows tell of words."""

from backwardrow.checks import MOST_IN_WORD
from backwardrow.demands import demand_number, demand_row, demand_word
from backwardrow.words import few_words

MOST_TICKS = 1000


def strip(row, word, ticks):
    """The worths of all cells at the ticks from 0 to ticks."""
    demand_row(row, "row")
    demand_word(word, row.letters, "word")
    demand_number(ticks, 0, MOST_TICKS, "ticks")
    worths = tuple([row.begin(letter) for letter in word])
    lines = [worths]
    for _ in range(ticks):
        worths = next_worths(row, worths)
        lines.append(worths)
    return tuple(lines)


def next_worths(row, worths):
    """The worths of all cells a tick later."""
    lefts = (None,) + worths[:-1]
    rights = worths[1:] + (None,)
    return tuple([row.next(left, own, right) for left, own, right in zip(lefts, worths, rights)])


def worth_at(row, word, cell, tick):
    """The worth of a cell at a tick."""
    demand_row(row, "row")
    demand_word(word, row.letters, "word")
    demand_number(cell, 0, len(word) - 1, "cell")
    demand_number(tick, 0, MOST_TICKS, "tick")
    return worth_heard(row, word, cell, tick)


def worth_heard(row, word, cell, tick):
    """The worth of a cell at a tick, reckoned from those cells alone of which it can have heard."""
    worths = {at: row.begin(word[at]) for at in cells_near(row, len(word), cell, tick)}
    for passed in range(tick):
        near = cells_near(row, len(word), cell, tick - passed - 1)
        worths = {at: row.next(worths.get(at - 1), worths[at], worths.get(at + 1)) for at in near}
    return worths[cell]


def cells_near(row, many, cell, ticks):
    """The cells of which a cell hears within so many ticks."""
    first = max(0, cell - ticks)
    last = min(many - 1, cell + ticks) if row.ways == 2 else cell
    return list(range(first, last + 1))


def seat(row, many):
    """The cell that is asked, for words of so many letters."""
    demand_row(row, "row")
    demand_number(many, 1, MOST_IN_WORD, "many")
    return seat_of(row, many)


def due_tick(row, many):
    """The tick at which a row is asked, for words of so many letters."""
    demand_row(row, "row")
    demand_number(many, 1, MOST_IN_WORD, "many")
    return due_of(row, many)


def seat_of(row, many):
    """The seat of a row, for a right number of letters."""
    return 0 if row.ways == 2 else many - 1


def due_of(row, many):
    """The due tick of a row, for a right number of letters."""
    return many - 1 if row.ways == 2 else 2 * many - 1


def told(row, word):
    """Whether the row tells the word yes."""
    demand_row(row, "row")
    demand_word(word, row.letters, "word")
    return says_at_seat(row, word, due_of(row, len(word)))


def said(row, word, tick):
    """Whether the worth of the seat at a tick says yes."""
    demand_row(row, "row")
    demand_word(word, row.letters, "word")
    demand_number(tick, 0, MOST_TICKS, "tick")
    return says_at_seat(row, word, tick)


def says_at_seat(row, word, tick):
    """Whether the seat says yes at a tick, for a right word and tick."""
    return bool(row.says(worth_heard(row, word, seat_of(row, len(word)), tick)))


def told_words(row, many):
    """All words of so many letters that the row tells yes, ascending."""
    demand_row(row, "row")
    demand_number(many, 1, MOST_IN_WORD, "many")
    tick = due_of(row, many)
    return tuple([word for word in few_words(row.letters, many) if says_at_seat(row, word, tick)])
