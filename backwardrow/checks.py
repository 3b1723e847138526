"""Whether any value is an integer, a letter, a word."""

MOST_IN_WORD = 200


def is_integer(value):
    """Whether a value is an integer; True and False are none."""
    return isinstance(value, int) and not isinstance(value, bool)


def is_within(value, least, most):
    """Whether a value is an integer from least to most, None standing for no bound."""
    if not is_integer(value):
        return False
    return (least is None or value >= least) and (most is None or value <= most)


def is_letter(value, letters):
    """Whether a value is one of so many letters."""
    return is_within(value, 0, letters - 1)


def is_word(value, letters):
    """Whether a value is a word over so many letters."""
    if not isinstance(value, (list, tuple)) or not is_within(len(value), 1, MOST_IN_WORD):
        return False
    return all([is_letter(letter, letters) for letter in value])
