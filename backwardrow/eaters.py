"""Eaters: they eat words letter by letter, and have up to two stacks."""

from backwardrow.checks import is_letter, is_within
from backwardrow.demands import demand_word
from backwardrow.eater_texts import MOST_SIGN, MOST_STACKS, MOST_STATES, eater_lines, eater_told
from backwardrow.errors import BadEater, Misfit, TooMany
from backwardrow.lists import is_lot, key_rank, pairs_told
from backwardrow.papers import fixed


class Eater:
    """What is done with each letter, in each state, by the tops of the stacks."""

    def __init__(self, letters, states, stacks, rules, yes):
        if not is_within(letters, 1, 6):
            raise BadEater("letters")
        if not is_within(states, 1, MOST_STATES):
            raise BadEater("states")
        if not is_within(stacks, 0, MOST_STACKS):
            raise BadEater("stacks")
        doings = doings_told(rules, letters, states, stacks)
        if doings is None:
            raise BadEater("rules")
        if not is_lot(yes, states):
            raise BadEater("yes")
        self.letters = letters
        self.states = states
        self.stacks = stacks
        self.rules = tuple([(key, doings[key]) for key in sorted(list(doings), key=rule_rank)])
        self.yes = tuple(sorted(yes))
        self._doings = doings

    def doing(self, state, letter, tops):
        """The state to which the rule for these comes and its moves, None if there is no rule."""
        return self._doings.get((state, letter, tops))

    def __eq__(self, other):
        if not isinstance(other, Eater) or self.letters != other.letters or self.states != other.states:
            return False
        return self.stacks == other.stacks and self.rules == other.rules and self.yes == other.yes

    def __str__(self):
        return "\n".join(eater_lines(self))

    @staticmethod
    def read(text):
        """The eater whose text this is."""
        letters, states, stacks, rules, yes = eater_told(text)
        return Eater(letters, states, stacks, rules, yes)


def rule_rank(key):
    """What the keys of rules ascend by."""
    return (key[0], key[1]) + key_rank(key[2])


def doings_told(rules, letters, states, stacks):
    """What is done by the keys of rules, None for what are no rules."""
    pairs = pairs_told(rules)
    if pairs is None:
        return None
    doings = {}
    for key, doing in pairs:
        if not is_key(key, letters, states, stacks) or not is_doing(doing, states, key[2]):
            return None
        doings[fixed(key)] = fixed(doing)
    return doings if len(doings) == len(pairs) else None


def is_key(value, letters, states, stacks):
    """Whether a value is a state, a letter and a top for each stack."""
    if not isinstance(value, (list, tuple)) or len(value) != 3:
        return False
    state, letter, tops = value
    if not is_within(state, 0, states - 1) or not is_letter(letter, letters):
        return False
    if not isinstance(tops, (list, tuple)) or len(tops) != stacks:
        return False
    return all([top is None or is_within(top, 0, MOST_SIGN) for top in tops])


def is_doing(value, states, tops):
    """Whether a value is a state and a move for each stack, with these tops."""
    if not isinstance(value, (list, tuple)) or len(value) != 2 or not is_within(value[0], 0, states - 1):
        return False
    moves = value[1]
    if not isinstance(moves, (list, tuple)) or len(moves) != len(tops):
        return False
    return all([is_move(move, top) for move, top in zip(moves, tops)])


def is_move(value, top):
    """Whether a value is a move of a stack with this top."""
    if isinstance(value, str):
        return value == "pop" and top is not None
    if isinstance(value, (list, tuple)):
        if len(value) != 2 or not isinstance(value[0], str):
            return False
        return value[0] == "push" and is_within(value[1], 0, MOST_SIGN)
    return value is None


def demand_eater(value, part):
    """Raise BadEater for what is no eater."""
    if not isinstance(value, Eater):
        raise BadEater(part)


def eaten(eater, word):
    """The state and the stacks behind the whole word, None if the eater is stuck."""
    demand_eater(eater, "eater")
    demand_word(word, eater.letters, "word")
    return held_by_letters(eater, word)[-1]


def takes(eater, word):
    """Whether the eater takes the word."""
    demand_eater(eater, "eater")
    demand_word(word, eater.letters, "word")
    return is_taken(eater, held_by_letters(eater, word)[-1])


def beginnings(eater, word):
    """Whether the eater takes each beginning of the word, the shortest one first."""
    demand_eater(eater, "eater")
    demand_word(word, eater.letters, "word")
    return tuple([is_taken(eater, held) for held in held_by_letters(eater, word)])


def is_taken(eater, held):
    """Whether an eater that has this behind a word takes it."""
    return held is not None and held[0] in eater.yes


def held_by_letters(eater, word):
    """The state and the stacks behind each letter, None where the eater is stuck."""
    held = (0, ((),) * eater.stacks)
    found = []
    for letter in word:
        held = None if held is None else held_behind(eater, held, letter)
        found.append(held)
    return found


def held_behind(eater, held, letter):
    """The state and the stacks behind one letter more, None if there is no rule."""
    state, stacks = held
    doing = eater.doing(state, letter, tuple([top_of(stack) for stack in stacks]))
    if doing is None:
        return None
    return (doing[0], tuple([moved(stack, move) for stack, move in zip(stacks, doing[1])]))


def top_of(stack):
    """The sign on top of a stack, None if it is empty."""
    return stack[0] if len(stack) > 0 else None


def moved(stack, move):
    """A stack behind a move."""
    if move is None:
        return stack
    return stack[1:] if move == "pop" else (move[1],) + stack


def side_by_side(one, other):
    """The eater that takes just the words that both take."""
    demand_eater(one, "one")
    demand_eater(other, "other")
    if one.letters != other.letters:
        raise Misfit("letters")
    if one.states * other.states > MOST_STATES:
        raise TooMany("states", MOST_STATES)
    if one.stacks + other.stacks > MOST_STACKS:
        raise TooMany("stacks", MOST_STACKS)
    many = other.states
    pairs = [(first, second) for first in one.rules for second in other.rules if first[0][1] == second[0][1]]
    rules = [joined_rule(first, second, many) for first, second in pairs]
    yes = [state * many + beside for state in one.yes for beside in other.yes]
    return Eater(one.letters, one.states * many, one.stacks + other.stacks, rules, yes)


def joined_rule(first, second, many):
    """The rule of two rules for one letter, many being how many states there are for the second one."""
    (state, letter, tops), (comes, moves) = first
    (beside, _, others), (goes, further) = second
    return ((state * many + beside, letter, tops + others), (comes * many + goes, moves + further))
