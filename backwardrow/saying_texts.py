"""Texts of sayings: written and read."""

from backwardrow.errors import BadText
from backwardrow.sayings import JOINS, MOST_BY, MOST_DEPTH, MOST_IN_PART, MOST_TURNS, MOST_WITHIN, demand_saying
from backwardrow.texts import text_lines, want_end, want_number
from backwardrow.words import MOST_LETTERS


def saying_text(saying):
    """The text of a saying."""
    demand_saying(saying, "saying")
    return " ".join(saying_items(saying))


def saying_items(saying):
    """The items of the text of a right saying."""
    word = saying[0]
    if word in JOINS:
        return [word] + [item for part in saying[1:] for item in saying_items(part)]
    if word in ("has", "then"):
        return [word, str(len(saying[1]))] + [str(letter) for letter in saying[1]]
    return [word] + [str(number) for number in saying[1:]]


def saying_read(text):
    """The saying whose text this is."""
    lines = text_lines(text)
    saying = saying_told(lines[0], 0)
    if len(lines) > 1:
        raise BadText(1, 0)
    return saying


def saying_told(items, start):
    """The saying that the items of a line tell, from one of them on up to the last one."""
    saying, end, _ = told_from(items, start, 1, 0)
    want_end(items, 0, end)
    return saying


def told_from(items, at, depth, before):
    """The saying whose text begins at an item, where this text ends, and how many sayings are read by then.

    It stands at this depth, and so many sayings were read before it.
    """
    # The word of a saying that is too deep, or one too many, cannot stand, whatever it is.
    if at >= len(items) or depth > MOST_DEPTH or before >= MOST_WITHIN:
        raise BadText(0, at)
    word = items[at]
    if word not in JOINS:
        parts = single_parts(items, at, word)
        return (word,) + parts, at + items_of(word, parts), before + 1
    saying = (word,)
    end = at + 1
    many = before + 1
    for _ in range(JOINS[word]):
        part, end, many = told_from(items, end, depth + 1, many)
        saying = saying + (part,)
    return saying, end, many


def items_of(word, parts):
    """How many items the text of a saying has in which no other one stands."""
    return 2 + len(parts[0]) if word in ("has", "then") else 1 + len(parts)


def single_parts(items, at, word):
    """What stands behind the word of a saying in which no other one stands."""
    if word == "mirror":
        return ()
    if word in ("begins", "ends"):
        return (letter_told(items, at + 1),)
    if word == "has":
        many = want_number(items, 0, at + 1, 1, MOST_IN_PART)
        return (tuple([letter_told(items, at + 2 + place) for place in range(many)]),)
    if word == "then":
        return (turns_told(items, at + 2, want_number(items, 0, at + 1, 2, MOST_TURNS)),)
    if word == "length":
        by = want_number(items, 0, at + 1, 2, MOST_BY)
        return (by, want_number(items, 0, at + 2, 0, by - 1))
    if word in ("many", "nested"):
        return turns_told(items, at + 1, 2)
    raise BadText(0, at)


def letter_told(items, at):
    """The letter that stands there."""
    return want_number(items, 0, at, 0, MOST_LETTERS - 1)


def turns_told(items, first, many):
    """So many letters, each of them unlike the one ahead of it."""
    letters = ()
    for at in range(first, first + many):
        letter = letter_told(items, at)
        if at > first and letter == letters[-1]:
            raise BadText(0, at)
        letters = letters + (letter,)
    return letters
