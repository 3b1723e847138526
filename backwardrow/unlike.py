"""The least word at which two rows part."""

from backwardrow.checks import is_integer, is_word
from backwardrow.demands import demand_number, demand_row
from backwardrow.errors import Misfit
from backwardrow.papers import Denial, Paper
from backwardrow.runs import due_of, says_at_seat
from backwardrow.words import demand_few_words, few_words


class Parted(Paper):
    """Two rows part at this word."""

    def __init__(self, letters):
        super().__init__("parted", letters)
        self.letters = self.parts[0]


class Same(Denial):
    """Two rows part at no word of so many letters at most."""

    def __init__(self, most):
        super().__init__("same", most)
        self.most = self.parts[0]


def unlike(one, other, most):
    """The paper of the least word at which two rows part, or the denial that there is one."""
    demand_pair(one, other, most)
    word = parting_word(one, other, most)
    return Same(most) if word is None else Parted(word)


def shows_unlike(one, other, most, value):
    """Whether a value is a right Parted or Same of two rows."""
    demand_pair(one, other, most)
    if isinstance(value, Parted):
        if not is_word(value.letters, one.letters) or len(value.letters) > most:
            return False
        return is_parting(one, other, value.letters)
    if not isinstance(value, Same) or not is_integer(value.most) or value.most != most:
        return False
    return parting_word(one, other, most) is None


def demand_pair(one, other, most):
    """Raise the errors for rows and a number of letters that cannot be held against one another."""
    demand_row(one, "one")
    demand_row(other, "other")
    demand_number(most, 1, 12, "most")
    if one.letters != other.letters:
        raise Misfit("letters")
    demand_few_words(one.letters, most)


def parting_word(one, other, most):
    """The least word of at most so many letters at which two rows part, None if there is none."""
    for many in range(1, most + 1):
        for word in few_words(one.letters, many):
            if is_parting(one, other, word):
                return word
    return None


def is_parting(one, other, word):
    """Whether two rows are told unlike of a word."""
    many = len(word)
    return says_at_seat(one, word, due_of(one, many)) != says_at_seat(other, word, due_of(other, many))
