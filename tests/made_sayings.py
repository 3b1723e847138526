"""Sayings for the tests, made by chance from a fixed seed, and what they mean, reckoned by the tests themselves."""

import itertools

KINDS = ("begins", "ends", "has", "length", "many", "nested", "then", "mirror")


def single_by_chance(chance, letters, kind=None):
    """A right saying in which no other one stands, naming letters below a number; lists and tuples by chance."""
    shape = chance.choice((list, tuple))
    if letters == 1:
        kind = kind or chance.choice(("begins", "ends", "has", "length", "mirror"))
    kind = kind or chance.choice(KINDS)
    one = chance.randrange(letters)
    if kind == "mirror":
        return shape([kind])
    if kind in ("begins", "ends"):
        return shape([kind, one])
    if kind == "has":
        return shape([kind, shape(chance.randrange(letters) for _ in range(chance.randint(1, 6)))])
    if kind == "length":
        by = chance.randint(2, 6)
        return shape([kind, by, chance.randrange(by)])
    if kind in ("many", "nested"):
        return shape([kind, *chance.sample(range(letters), 2)])
    turns = [one]
    for _ in range(chance.randint(1, 3)):
        turns.append(chance.choice([letter for letter in range(letters) if letter != turns[-1]]))
    return shape([kind, shape(turns)])


def saying_by_chance(chance, letters, depth=6, most=16):
    """A right saying of at most this depth, with at most so many within it."""
    if depth == 1 or most < 3 or chance.random() < 0.2:
        return single_by_chance(chance, letters)
    shape = chance.choice((list, tuple))
    word = chance.choice(("not", "both", "either"))
    if word == "not":
        return shape([word, saying_by_chance(chance, letters, depth - 1, most - 1)])
    share = (most - 1) // 2
    return shape([word, saying_by_chance(chance, letters, depth - 1, share), saying_by_chance(chance, letters, depth - 1, share)])


def within_by_hand(saying):
    """The sayings within a right one."""
    found = [saying]
    if saying[0] in ("not", "both", "either"):
        for part in saying[1:]:
            found += within_by_hand(part)
    return found


def so_by_hand(saying, word):
    """Whether a word is so."""
    kind, word = saying[0], list(word)
    if kind == "not":
        return not so_by_hand(saying[1], word)
    if kind == "both":
        return all([so_by_hand(part, word) for part in saying[1:]])
    if kind == "either":
        return any([so_by_hand(part, word) for part in saying[1:]])
    if kind == "begins":
        return word[:1] == [saying[1]]
    if kind == "ends":
        return word[-1:] == [saying[1]]
    if kind == "has":
        return " " + " ".join(map(str, saying[1])) + " " in " " + " ".join(map(str, word)) + " "
    if kind == "length":
        return (len(word) - saying[2]) % saying[1] == 0
    if kind == "many":
        return sum(1 if letter == saying[1] else -1 if letter == saying[2] else 0 for letter in word) == 0
    if kind == "nested":
        return nested_by_hand(word, saying[1], saying[2])
    if kind == "then":
        runs = [(letter, len(list(run))) for letter, run in itertools.groupby(word)]
        return [letter for letter, _ in runs] == list(saying[1]) and len({many for _, many in runs}) == 1
    return all(word[at] == word[-1 - at] for at in range(len(word)))


def nested_by_hand(word, up, down):
    """Whether nothing is left when each up goes together with a down right behind it, again and again."""
    left = [letter for letter in word if letter in (up, down)]
    while True:
        pairs = [at for at in range(len(left) - 1) if left[at:at + 2] == [up, down]]
        if not pairs:
            return not left
        del left[pairs[0]:pairs[0] + 2]


def text_by_hand(saying):
    """The text of a saying."""
    items = []
    for part in saying:
        if isinstance(part, (list, tuple)) and isinstance(part[0], str):
            items.append(text_by_hand(part))
        elif isinstance(part, (list, tuple)):
            items += [str(len(part)), *map(str, part)]
        else:
            items.append(str(part))
    return " ".join(items)


def so_often(saying, word, chance):
    """A word near this one that may well be so: of turns, of pairs, mirrored."""
    kind = saying[0]
    if kind in ("not", "both", "either"):
        return so_often(chance.choice(saying[1:]), word, chance)
    if kind == "then":
        return [letter for letter in saying[1] for _ in range(max(1, len(word) // len(saying[1])))]
    if kind in ("many", "nested"):
        half = len(word) // 2
        ups = [saying[1]] * half
        return ups + [saying[2]] * half if chance.random() < 0.5 else [letter for pair in zip(ups, [saying[2]] * half) for letter in pair] or list(word)
    if kind == "mirror":
        return list(word) + list(word)[::-1]
    if kind == "has":
        at = chance.randint(0, len(word))
        return list(word)[:at] + list(saying[1]) + list(word)[at:]
    return list(word)
