"""Rows and eaters to which sayings are led."""

from backwardrow.demands import demand_number
from backwardrow.errors import Misfit
from backwardrow.fed import Fed
from backwardrow.joined import Both, Either, Not
from backwardrow.mirrors import Mirror
from backwardrow.saying_eaters import eater_led
from backwardrow.sayings import JOINS, demand_saying, letters_told
from backwardrow.words import MOST_LETTERS


def row_of(saying, letters):
    """The row that says of each beginning of a word, at its own tick, whether it is so."""
    demand_spoken(saying, letters)
    return row_led(saying, letters)


def eater_of(saying, letters):
    """The eater that takes just the words that are so."""
    demand_spoken(saying, letters)
    if saying[0] == "mirror" or saying[0] in JOINS:
        raise Misfit("saying")
    return eater_led(saying, letters)


def demand_spoken(saying, letters):
    """Raise the errors for a saying and a number of letters over which nothing can be led."""
    demand_saying(saying, "saying")
    demand_number(letters, 1, MOST_LETTERS, "letters")
    if letters_told(saying) > letters:
        raise Misfit("letters")


def row_led(saying, letters):
    """The row to which a right saying is led, over enough letters."""
    word = saying[0]
    if word == "not":
        return Not(row_led(saying[1], letters))
    if word == "both":
        return Both(row_led(saying[1], letters), row_led(saying[2], letters))
    if word == "either":
        return Either(row_led(saying[1], letters), row_led(saying[2], letters))
    return Mirror(letters) if word == "mirror" else Fed(eater_led(saying, letters))
