"""Lists of pairs and of unlike numbers, as callers tell them."""

from backwardrow.checks import is_within


def pairs_told(value):
    """The pairs that a list or a dict tells, None if it is neither."""
    if isinstance(value, dict):
        return list(value.items())
    if not isinstance(value, (list, tuple)):
        return None
    if not all([isinstance(pair, (list, tuple)) and len(pair) == 2 for pair in value]):
        return None
    return list(value)


def is_lot(value, many):
    """Whether a value is a list of unlike integers from 0 below many, perhaps of none."""
    if not isinstance(value, (list, tuple)):
        return False
    if not all([is_within(number, 0, many - 1) for number in value]):
        return False
    return len(set(value)) == len(value)


def key_rank(key):
    """What keys ascend by: as Python compares them, with None below all numbers."""
    return tuple([-1 if part is None else part for part in key])
