"""Reading texts: lines of items, with the line and the item of the first one that cannot stand.

An item that is missing has the number of its line's items as its index, so the same error
tells of an item that is wrong and of one that is not there.
"""

from backwardrow.checks import is_within
from backwardrow.errors import BadText
from backwardrow.lists import key_rank

DIGITS = "0123456789"
MOST_DIGITS = 60


def text_lines(text):
    """The items of each line of a text."""
    if not isinstance(text, str):
        raise BadText(0, 0)
    return [line.split(" ") for line in text.split("\n")]


def line_items(lines, line):
    """The items of a line that must be there."""
    if line >= len(lines):
        raise BadText(len(lines), 0)
    return lines[line]


def integer_told(item):
    """The integer that an item tells in its one right form, or None."""
    digits = item[1:] if item.startswith("-") else item
    if not is_within(len(digits), 1, MOST_DIGITS) or not all([sign in DIGITS for sign in digits]):
        return None
    number = int(item)
    return number if str(number) == item else None


def want_word(items, line, at, word):
    """Raise BadText if another item than this word stands there, or none."""
    if at >= len(items) or items[at] != word:
        raise BadText(line, at)


def want_number(items, line, at, least, most):
    """The integer that stands there: BadText for none from least to most."""
    number = integer_told(items[at]) if at < len(items) else None
    if not is_within(number, least, most):
        raise BadText(line, at)
    return number


def want_end(items, line, at):
    """Raise BadText if an item stands where the line should have ended."""
    if at < len(items):
        raise BadText(line, at)


def want_lot(items, line, first, many):
    """The numbers below many that stand from an item on, each above the one before it."""
    lot = []
    for at in range(first, len(items)):
        lot.append(want_number(items, line, at, lot[-1] + 1 if len(lot) > 0 else 0, many - 1))
    return lot


def want_yes(items, line, many):
    """The numbers below many that stand behind yes, each above the one before it."""
    want_word(items, line, 0, "yes")
    return want_lot(items, line, 1, many)


def want_behind(key, before, line, at):
    """Raise BadText if a key, as far as it is read, cannot come behind the whole key before it, if there is one."""
    if before is not None:
        if key == before or key_rank(key) < key_rank(before[:len(key)]):
            raise BadText(line, at)
