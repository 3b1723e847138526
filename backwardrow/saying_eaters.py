"""Eaters of sayings: for each saying in which no other one stands, but for mirror, one that takes just the words so.

On each stack the lowest sign is LOWEST, all others are OTHER: so the state knows when nothing is left.
"""

from backwardrow.eaters import Eater

LOWEST = 0
OTHER = 1
SIGNS = (LOWEST, OTHER)


def eater_led(saying, letters):
    """The eater to which a right saying is led, over enough letters."""
    word = saying[0]
    if word == "begins":
        return eater_beginning(saying[1], letters)
    if word == "ends":
        return eater_ending(saying[1], letters)
    if word == "has":
        return eater_having(tuple(saying[1]), letters)
    if word == "length":
        return eater_counting(saying[1], saying[2], letters)
    if word == "many":
        rules = balance_rules(saying[1], saying[2], 1, letters) + balance_rules(saying[2], saying[1], 2, letters)
        return Eater(letters, 3, 1, rules + resting_rules(saying, letters), [0])
    if word == "nested":
        rules = balance_rules(saying[1], saying[2], 1, letters)
        return Eater(letters, 2, 1, rules + resting_rules(saying, letters), [0])
    return eater_by_turns(tuple(saying[1]), letters)


def eater_beginning(first, letters):
    """In state 1 behind the first letter, if it is this one; stuck otherwise."""
    rules = [((1, letter, ()), (1, ())) for letter in range(letters)]
    return Eater(letters, 2, 0, [((0, first, ()), (1, ()))] + rules, [1])


def eater_ending(last, letters):
    """In state 1 behind this letter, in state 0 behind all others."""
    rules = [((state, letter, ()), (int(letter == last), ())) for state in (0, 1) for letter in range(letters)]
    return Eater(letters, 2, 0, rules, [1])


def eater_having(part, letters):
    """In the state s if the last s letters are the first ones of part; having had the whole part it stays so."""
    whole = len(part)
    rules = [((whole, letter, ()), (whole, ())) for letter in range(letters)]
    for state in range(whole):
        for letter in range(letters):
            rules.append(((state, letter, ()), (fitting(part, part[:state] + (letter,)), ())))
    return Eater(letters, whole + 1, 0, rules, [whole])


def fitting(part, heard):
    """How many of the last letters that were heard are the first ones of part, as many as there may be."""
    return max([many for many in range(len(heard) + 1) if heard[len(heard) - many:] == part[:many]])


def eater_counting(by, rest, letters):
    """In the state that the number of its letters leaves."""
    rules = [((state, letter, ()), ((state + 1) % by, ())) for state in range(by) for letter in range(letters)]
    return Eater(letters, by, 0, rules, [rest])


def balance_rules(more, less, state, letters):
    """Rules of a state in which there are more of one letter than of another one, and the stack tells by how many.

    In the state 0 nothing is on the stack.
    """
    rules = [((0, more, (None,)), (state, (("push", LOWEST),)))]
    rules += [((state, less, (LOWEST,)), (0, ("pop",))), ((state, less, (OTHER,)), (state, ("pop",)))]
    rules += [((state, more, (top,)), (state, (("push", OTHER),))) for top in SIGNS]
    others = [letter for letter in range(letters) if letter not in (more, less)]
    return rules + [((state, letter, (top,)), (state, (None,))) for letter in others for top in SIGNS]


def resting_rules(saying, letters):
    """Rules of the state 0 for the letters that the saying does not name."""
    others = [letter for letter in range(letters) if letter not in saying[1:]]
    return [((0, letter, (None,)), (0, (None,))) for letter in others]


def eater_by_turns(turns, letters):
    """Letter by letter the signs are taken off one stack and put on the other one.

    The state is 0 at first, 1 while the first letter comes, then 2 at - 2 while letter number at of the turns
    comes, counted from 1, and 2 at - 1 when it has come as often as the one before it.
    """
    many = len(turns)
    stacks = 1 if many == 2 else 2
    empty = (None,) * stacks
    rules = [((0, turns[0], empty), (1, put(empty, 0, ("push", LOWEST))))]
    rules += [((1, turns[0], put(empty, 0, top)), (1, put(empty, 0, ("push", OTHER)))) for top in SIGNS]
    for at in range(2, many + 1):
        rules += turn_rules(turns, at, stacks)
    return Eater(letters, 2 * many, stacks, rules, [2 * many - 1])


def turn_rules(turns, at, stacks):
    """The rules for the letter number at of the turns: it takes from one stack and, if it is not the last, puts on."""
    source = at % 2
    target = (at + 1) % 2
    ahead = 2 * at - 3
    going = 2 * at - 2
    last = at == len(turns)
    # The state and what lies on the stack that signs are put on; with the last letter none is put on.
    places = [(ahead, None), (going, None)] if last else [(ahead, None), (going, LOWEST), (going, OTHER)]
    rules = []
    for top in SIGNS:
        comes = going + 1 if top == LOWEST else going
        for state, beside in places:
            tops = put((None,) * stacks, source, top)
            moves = put((None,) * stacks, source, "pop")
            if not last:
                tops = put(tops, target, beside)
                moves = put(moves, target, ("push", LOWEST if beside is None else OTHER))
            rules.append(((state, turns[at - 1], tops), (comes, moves)))
    return rules


def put(parts, at, part):
    """The parts with another one at a place."""
    return parts[:at] + (part,) + parts[at + 1:]
