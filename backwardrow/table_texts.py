"""Texts of tables, and what they tell."""

from backwardrow.texts import line_items, text_lines, want_behind, want_end, want_number, want_word, want_yes


def table_lines(table):
    """The lines of the text of a table."""
    first = f"ways {table.ways} letters {table.letters} worths {table.worths}"
    yes = " ".join(["yes"] + [str(worth) for worth in table.yes])
    return [first, yes] + [rule_line(key, worth) for key, worth in table.rules]


def rule_line(key, worth):
    """The line of a rule."""
    told = " ".join(["-" if part is None else str(part) for part in key])
    return f"{told} > {worth}"


def table_told(text):
    """The ways, letters, worths, rules and yes of the table whose text this is."""
    return told_by_lines(text_lines(text))


def told_by_lines(lines):
    """The ways, letters, worths, rules and yes of the table whose text has these lines, each a list of items."""
    ways, letters, worths = first_told(lines[0])
    yes = want_yes(line_items(lines, 1), 1, worths)
    rules = []
    before = None
    for line in range(2, len(lines)):
        key = key_told(lines[line], line, ways, worths, before)
        rules.append((key, worth_told(lines[line], line, ways, worths)))
        before = key
    return ways, letters, worths, rules, yes


def first_told(items):
    """The ways, letters and worths that the first line tells."""
    want_word(items, 0, 0, "ways")
    ways = want_number(items, 0, 1, 1, 2)
    want_word(items, 0, 2, "letters")
    letters = want_number(items, 0, 3, 1, 6)
    want_word(items, 0, 4, "worths")
    worths = want_number(items, 0, 5, letters, 12)
    want_end(items, 0, 6)
    return ways, letters, worths


def key_told(items, line, ways, worths, before):
    """The key of a rule, which comes behind the key before it, if there is one."""
    key = ()
    for at in range(ways + 1):
        key = key + (key_part_told(items, line, at, worths),)
        want_behind(key, before, line, at)
    return key


def key_part_told(items, line, at, worths):
    """A worth of a key, or None for a border, which the cell itself, at 1, is never."""
    if at != 1 and at < len(items) and items[at] == "-":
        return None
    return want_number(items, line, at, 0, worths - 1)


def worth_told(items, line, ways, worths):
    """The worth to which a rule leads."""
    want_word(items, line, ways + 1, ">")
    worth = want_number(items, line, ways + 2, 0, worths - 1)
    want_end(items, line, ways + 3)
    return worth
