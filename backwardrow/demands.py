"""What functions ask of their parameters, with the errors that the document names."""

from backwardrow.checks import is_within, is_word
from backwardrow.errors import BadNumber, BadRow, BadWord
from backwardrow.rows import Row


def demand_number(value, least, most, part):
    """Raise BadNumber for what is no integer from least to most."""
    if not is_within(value, least, most):
        raise BadNumber(part)


def demand_word(value, letters, part):
    """Raise BadWord for what is no word over so many letters."""
    if not is_word(value, letters):
        raise BadWord(part)


def demand_row(value, part):
    """Raise BadRow for what is no row."""
    if not isinstance(value, Row):
        raise BadRow(part)
