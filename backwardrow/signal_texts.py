"""Texts of rows of signals, and what they tell."""

from backwardrow.errors import BadText
from backwardrow.texts import line_items, text_lines, want_end, want_lot, want_number, want_word

MOST_KINDS = 8
MOST_WAIT = 5
MOST_MEETS = 40
MOST_BEGINS = 6


def signal_lines(row):
    """The lines of the text of a row of signals."""
    kinds = [f"kind {way} {wait}" for way, wait in row.kinds]
    meets = [lot_line("meet", first) + lot_line(" =", second) for first, second in row.meets]
    borders = [lot_line("border", lot) for lot in row.borders]
    begins = [lot_line("begin", lot) for lot in row.begins]
    return kinds + meets + borders + begins + [f"flash {row.flash}"]


def lot_line(word, lot):
    """A word and the numbers of a lot behind it."""
    return " ".join([word] + [str(kind) for kind in lot])


def signals_told(text):
    """The kinds, meets, borders, begins and flash of the row of signals whose text this is."""
    lines = text_lines(text)
    kinds = kinds_told(lines)
    many = len(kinds)
    meets = meets_told(lines, many)
    first = many + len(meets)
    borders = [lot_told(lines, first + at, "border", many) for at in range(many)]
    begins = begins_told(lines, first + many, many)
    last = first + many + len(begins)
    items = line_items(lines, last)
    want_word(items, last, 0, "flash")
    flash = want_number(items, last, 1, 0, many - 1)
    want_end(items, last, 2)
    if len(lines) > last + 1:
        raise BadText(last + 1, 0)
    return kinds, meets, borders, begins, flash


def is_line_of(lines, line, word):
    """Whether there is a line that begins with this word."""
    return line < len(lines) and lines[line][0] == word


def kinds_told(lines):
    """The kinds that the first lines tell, one at least."""
    kinds = [kind_told(lines[0], 0)]
    while len(kinds) < MOST_KINDS and is_line_of(lines, len(kinds), "kind"):
        kinds.append(kind_told(lines[len(kinds)], len(kinds)))
    return kinds


def kind_told(items, line):
    """The way and the wait of a kind; what stands has a wait of 1."""
    want_word(items, line, 0, "kind")
    way = want_number(items, line, 1, -1, 1)
    wait = want_number(items, line, 2, 1, 1 if way == 0 else MOST_WAIT)
    want_end(items, line, 3)
    return (way, wait)


def meets_told(lines, many):
    """The meets that the lines behind those of the kinds tell, perhaps none."""
    meets = []
    before = []
    while len(meets) < MOST_MEETS and is_line_of(lines, many + len(meets), "meet"):
        line = many + len(meets)
        first = first_told(lines[line], line, many, before)
        meets.append((first, want_lot(lines[line], line, len(first) + 2, many)))
        before = first
    return meets


def first_told(items, line, many, before):
    """The first lot of a meet, up to its =, which cannot stand if the lot is not above the one before it."""
    lot = [want_number(items, line, 1, 0, many - 1)]
    while len(lot) + 1 >= len(items) or items[len(lot) + 1] != "=":
        lot.append(want_number(items, line, len(lot) + 1, lot[-1] + 1, many - 1))
    if lot <= before:
        raise BadText(line, len(lot) + 1)
    return lot


def lot_told(lines, line, word, many):
    """The lot that stands behind a word in a line that must be there."""
    items = line_items(lines, line)
    want_word(items, line, 0, word)
    return want_lot(items, line, 1, many)


def begins_told(lines, first, many):
    """The lots as which letters begin, one at least."""
    begins = [lot_told(lines, first, "begin", many)]
    while len(begins) < MOST_BEGINS and is_line_of(lines, first + len(begins), "begin"):
        begins.append(lot_told(lines, first + len(begins), "begin", many))
    return begins
