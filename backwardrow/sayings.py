"""Sayings: what can be said of words, and which words are so."""

from backwardrow.checks import is_letter, is_within
from backwardrow.demands import demand_number, demand_word
from backwardrow.errors import BadSaying
from backwardrow.words import MOST_LETTERS, few_words

# How many sayings stand behind these words; behind all others none does.
JOINS = {"not": 1, "both": 2, "either": 2}
MOST_WITHIN = 16
MOST_DEPTH = 6
MOST_IN_PART = 6
MOST_TURNS = 4
MOST_BY = 6


def is_saying(value):
    """Whether a value is a saying."""
    return is_within(many_within(value, 1), 1, MOST_WITHIN)


def many_within(value, depth):
    """How many sayings are within a value that stands at this depth, 0 if it is none."""
    if not isinstance(value, (list, tuple)) or len(value) == 0 or not isinstance(value[0], str):
        return 0
    if depth > MOST_DEPTH:
        return 0
    if value[0] not in JOINS:
        return 1 if is_single(value) else 0
    if len(value) != JOINS[value[0]] + 1:
        return 0
    counts = [many_within(part, depth + 1) for part in value[1:]]
    return 1 + sum(counts) if all([count > 0 for count in counts]) else 0


def is_single(value):
    """Whether a list that begins with a string is a saying in which no other one stands."""
    word = value[0]
    if word == "mirror":
        return len(value) == 1
    if word in ("begins", "ends"):
        return len(value) == 2 and is_letter(value[1], MOST_LETTERS)
    if word == "has":
        return len(value) == 2 and are_letters(value[1], 1, MOST_IN_PART)
    if word == "then":
        return len(value) == 2 and are_letters(value[1], 2, MOST_TURNS) and are_turns(value[1])
    if len(value) != 3:
        return False
    if word == "length":
        return is_within(value[1], 2, MOST_BY) and is_within(value[2], 0, value[1] - 1)
    return word in ("many", "nested") and are_letters(value[1:], 2, 2) and are_turns(value[1:])


def are_letters(value, least, most):
    """Whether a value is a list of letters, from least to most of them."""
    if not isinstance(value, (list, tuple)) or not is_within(len(value), least, most):
        return False
    return all([is_letter(letter, MOST_LETTERS) for letter in value])


def are_turns(letters):
    """Whether no two neighbours among these letters are alike."""
    return all([letters[at] != letters[at + 1] for at in range(len(letters) - 1)])


def demand_saying(value, part):
    """Raise BadSaying for what is no saying."""
    if not is_saying(value):
        raise BadSaying(part)


def letters_in(saying):
    """One more than the greatest letter that is told in the saying, 1 if none is."""
    demand_saying(saying, "saying")
    return letters_told(saying)


def letters_told(saying):
    """One more than the greatest letter of a right saying."""
    word = saying[0]
    if word in JOINS:
        return max([letters_told(part) for part in saying[1:]])
    if word in ("mirror", "length"):
        return 1
    return 1 + max(saying[1] if word in ("has", "then") else saying[1:])


def means(saying, word):
    """Whether a word is so."""
    demand_saying(saying, "saying")
    demand_word(word, MOST_LETTERS, "word")
    return is_so(saying, tuple(word))


def words_so(saying, letters, many):
    """All words of so many letters, over so many, that are so, ascending."""
    demand_saying(saying, "saying")
    demand_number(letters, 1, MOST_LETTERS, "letters")
    demand_number(many, 1, 12, "many")
    return tuple([word for word in few_words(letters, many) if is_so(saying, word)])


def is_so(saying, word):
    """Whether a word, as a tuple, is so by a right saying."""
    kind = saying[0]
    if kind == "not":
        return not is_so(saying[1], word)
    if kind == "both":
        return is_so(saying[1], word) and is_so(saying[2], word)
    if kind == "either":
        return is_so(saying[1], word) or is_so(saying[2], word)
    return is_so_singly(saying, word)


def is_so_singly(saying, word):
    """Whether a word is so by a right saying in which no other one stands."""
    kind = saying[0]
    if kind == "begins":
        return word[0] == saying[1]
    if kind == "ends":
        return word[-1] == saying[1]
    if kind == "has":
        return has_part(word, tuple(saying[1]))
    if kind == "length":
        return len(word) % saying[1] == saying[2]
    if kind == "many":
        return word.count(saying[1]) == word.count(saying[2])
    if kind == "nested":
        return is_nested(word, saying[1], saying[2])
    if kind == "then":
        return is_by_turns(word, saying[1])
    return word == word[::-1]


def has_part(word, part):
    """Whether the letters of part stand somewhere in the word, one right behind the other."""
    return any([word[at:at + len(part)] == part for at in range(len(word))])


def is_nested(word, up, down):
    """Whether no beginning has more of down than of up, and the whole has as many."""
    more = 0
    for letter in word:
        if letter == up:
            more += 1
        elif letter == down:
            more -= 1
        if more < 0:
            return False
    return more == 0


def is_by_turns(word, letters):
    """Whether the word has these letters one behind another, each as often as the others, and nothing else."""
    times = len(word) // len(letters)
    return times > 0 and word == tuple([letter for letter in letters for _ in range(times)])
