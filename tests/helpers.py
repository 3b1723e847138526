"""What several tests need: errors as plain values, values of many kinds, and examples that are run."""

import ast

FIELDS = {
    "BadNumber": ("part",), "BadWord": ("part",), "BadRow": ("part",), "BadTable": ("part",),
    "BadEater": ("part",), "BadSignals": ("part",), "BadSaying": ("part",), "BadPaper": ("part",),
    "Misfit": ("part",), "NoName": ("value",), "Twice": ("value",), "TooMany": ("what", "most"),
    "Nothing": (), "BadText": ("line", "item"), "BadLine": ("line", "error"),
}


class Odd:
    """An object that is like nothing of the package."""


ODD = Odd()
NO_INTEGERS = (True, False, None, "1", "", b"1", 1.0, 1.5, [], [1], (), (1,), {}, {1: 1}, ODD, int)
NO_STRINGS = (None, True, False, 0, 7, 1.5, b"0", [], ["0"], (), ("0",), {}, {"0": 0}, ODD, str)
NO_LISTS = (None, True, False, 0, 7, 1.5, "", "01", b"01", ODD, list)
HUGE = 10 ** 5000


def error_of(call, *args, **named):
    """The error that a call raises, as its name and its fields; ("none", what it returned) for none."""
    try:
        result = call(*args, **named)
    except ValueError as error:
        name = error.__class__.__name__
        return (name, *[getattr(error, field) for field in FIELDS[name]])
    return ("none", result)


def examples_of(text):
    """The examples in a text, as triples of a source, whether it raises, and what is expected."""
    lines = text.strip("\n").split("\n")
    found = []
    for at, line in enumerate(lines):
        if not line.startswith(">>> "):
            continue
        expected = lines[at + 1] if at + 1 < len(lines) else ">>> "
        if expected.startswith(">>> "):
            expected = None
        found.append((line[4:], expected))
    return found


def run_example(source, expected, names):
    """What is wrong with an example, None if nothing is."""
    if expected is None:
        exec(source, names)
        return None
    if expected.startswith("raises "):
        got = error_of(eval, source, names)
        wanted = ast.parse(expected[len("raises "):], mode="eval").body
        if isinstance(wanted, ast.Name):
            return None if got[0] == wanted.id else got
        fields = tuple(ast.literal_eval(field) for field in wanted.args)
        return None if got == (wanted.func.id, *fields) else got
    got = eval(source, names)
    # repr, too, as == takes True for 1 and papers of several classes have one of their own.
    return None if got == ast.literal_eval(expected) and repr(got) == expected else got
