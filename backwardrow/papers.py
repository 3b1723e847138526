"""Papers: answers together with what shows them."""


class Paper:
    """An answer and its parts; true, unless it is a denial."""

    def __init__(self, word, *parts):
        self.word = word
        self.parts = fixed(parts)

    def __bool__(self):
        return True

    def __eq__(self, other):
        # A class cannot be compared here, so its name stands for it.
        if not isinstance(other, Paper) or self.__class__.__name__ != other.__class__.__name__:
            return False
        return self.word == other.word and self.parts == other.parts


class Denial(Paper):
    """A paper that says no."""

    def __init__(self, word, *parts):
        super().__init__(word, *parts)

    def __bool__(self):
        return False


def fixed(value):
    """The value with tuples in the place of lists, all the way in."""
    if isinstance(value, (list, tuple)):
        return tuple([fixed(part) for part in value])
    return value
