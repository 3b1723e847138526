"""The lines that a desk is told: their forms, and what they tell."""

from backwardrow.checks import MOST_IN_WORD, is_within
from backwardrow.errors import BadText
from backwardrow.runs import MOST_TICKS
from backwardrow.saying_texts import saying_told
from backwardrow.sped import LEAST_BY, MOST_BY
from backwardrow.table_texts import told_by_lines
from backwardrow.texts import want_number
from backwardrow.words import MOST_LETTERS

FIRST_SIGNS = "abcdefghijklmnopqrstuvwxyz"
SIGNS = "abcdefghijklmnopqrstuvwxyz0123456789"
MOST_SIGNS = 12
MOST_UNLIKE = 12
BETWEEN = "/"


def is_name(value):
    """Whether a value is a string that can be a name."""
    if not isinstance(value, str) or not is_within(len(value), 1, MOST_SIGNS):
        return False
    return value[0] in FIRST_SIGNS and all([sign in SIGNS for sign in value])


# Each of these functions reads from an item on, and tells what stands there and where it ends.


def name_told(items, at):
    """A name."""
    if at >= len(items) or not is_name(items[at]):
        raise BadText(0, at)
    return items[at], at + 1


def letters_told(items, at):
    """A number of letters that a row may have."""
    return want_number(items, 0, at, 1, MOST_LETTERS), at + 1


def by_told(items, at):
    """A number by which a row is sped."""
    return want_number(items, 0, at, LEAST_BY, MOST_BY), at + 1


def tick_told(items, at):
    """A tick."""
    return want_number(items, 0, at, 0, MOST_TICKS), at + 1


def many_told(items, at):
    """How many letters words have."""
    return want_number(items, 0, at, 1, MOST_IN_WORD), at + 1


def most_told(items, at):
    """How many letters words have at most that are gone through."""
    return want_number(items, 0, at, 1, MOST_UNLIKE), at + 1


def word_told(items, at):
    """The letters of a word, up to the last item."""
    return letters_from(items, at, MOST_IN_WORD)


def names_of_letters_told(items, at):
    """The letters by which a row is renamed, up to the last item."""
    return letters_from(items, at, MOST_LETTERS)


def letters_from(items, first, most):
    """One letter or more, up to the last item, or to the last one that can stand."""
    end = max(first + 1, min(len(items), first + most))
    return tuple([want_number(items, 0, at, 0, MOST_LETTERS - 1) for at in range(first, end)]), end


def whole_saying_told(items, at):
    """A saying, by its text up to the last item."""
    return saying_told(items, at), len(items)


def table_parts_told(items, at):
    """The five parameters of a table, by the lines of its text up to the last item."""
    lines = [[]]
    for item in items[at:]:
        if item == BETWEEN:
            lines.append([])
        else:
            lines[-1].append(item)
    try:
        return told_by_lines(lines), len(items)
    except BadText as error:
        # A line that is missing would begin behind a further / at the end; this is what is missing there.
        place = at + sum([len(line) + 1 for line in lines[:error.line]]) + error.item
        raise BadText(0, min(place, len(items))) from None


# What stands behind the first item of each line.
FORMS = {
    "table": (name_told, table_parts_told),
    "saying": (name_told, letters_told, whole_saying_told),
    "oneway": (name_told, name_told),
    "twoways": (name_told, name_told),
    "not": (name_told, name_told),
    "both": (name_told, name_told, name_told),
    "either": (name_told, name_told, name_told),
    "renamed": (name_told, name_told, names_of_letters_told),
    "sped": (name_told, name_told, by_told),
    "drop": (name_told,),
    "undo": (),
    "again": (),
    "log": (),
    "names": (),
    "told": (name_told, word_told),
    "said": (name_told, tick_told, word_told),
    "due": (name_told, many_told),
    "words": (name_told, many_told),
    "unlike": (name_told, name_told, most_told),
    "picture": (name_told, tick_told, word_told),
    "text": (name_told,),
}


def line_told(line):
    """The first item of a line, and what stands behind it: BadText for what is no line."""
    if not isinstance(line, str):
        raise BadText(0, 0)
    items = line.split(" ")
    form = FORMS.get(items[0])
    if form is None:
        raise BadText(0, 0)
    parts = []
    at = 1
    for reader in form:
        part, at = reader(items, at)
        parts.append(part)
    if at < len(items):
        raise BadText(0, at)
    return items[0], parts
