"""Words: all of a length, one behind another, and their texts."""

from backwardrow.checks import MOST_IN_WORD
from backwardrow.demands import demand_number, demand_word
from backwardrow.errors import BadText, TooMany
from backwardrow.texts import text_lines, want_end, want_number

MOST_LETTERS = 6
MOST_WORDS = 4096


def all_words(letters, many):
    """All words of so many letters, ascending."""
    demand_number(letters, 1, MOST_LETTERS, "letters")
    demand_number(many, 1, 12, "many")
    return few_words(letters, many)


def few_words(letters, many):
    """All words of any right length, ascending: TooMany if there are too many of them."""
    demand_few_words(letters, many)
    words = [()]
    for _ in range(many):
        words = [(*word, letter) for word in words for letter in range(letters)]
    return tuple(words)


def demand_few_words(letters, many):
    """Raise TooMany if there are too many words of so many letters."""
    count = 1
    for _ in range(many):
        count *= letters
    if count > MOST_WORDS:
        raise TooMany("words", MOST_WORDS)


def next_word(letters, word):
    """The word behind this one, shorter ones first, those of one length ascending."""
    demand_number(letters, 1, MOST_LETTERS, "letters")
    demand_word(word, letters, "word")
    many = len(word)
    at = many - 1
    while at >= 0 and word[at] == letters - 1:
        at -= 1
    if at >= 0:
        return tuple(word[:at]) + (word[at] + 1,) + (0,) * (many - at - 1)
    if many == MOST_IN_WORD:
        raise TooMany("letters", MOST_IN_WORD)
    return (0,) * (many + 1)


def mirrored(word):
    """The letters of a word the other way round."""
    demand_word(word, MOST_LETTERS, "word")
    return tuple(word[::-1])


def word_text(word):
    """The letters of a word, with single blanks between."""
    demand_word(word, MOST_LETTERS, "word")
    return " ".join([str(letter) for letter in word])


def word_read(text):
    """The word whose text this is."""
    lines = text_lines(text)
    items = lines[0]
    letters = items[:MOST_IN_WORD]
    word = tuple([want_number(letters, 0, at, 0, MOST_LETTERS - 1) for at in range(len(letters))])
    want_end(items, 0, MOST_IN_WORD)
    if len(lines) > 1:
        raise BadText(1, 0)
    return word
