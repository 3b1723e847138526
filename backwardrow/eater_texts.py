"""Texts of eaters, and what they tell."""

from backwardrow.texts import line_items, text_lines, want_behind, want_end, want_number, want_word, want_yes

MOST_STATES = 12
MOST_STACKS = 2
MOST_SIGN = 3


def eater_lines(eater):
    """The lines of the text of an eater."""
    first = f"eater {eater.letters} {eater.states} {eater.stacks}"
    yes = " ".join(["yes"] + [str(state) for state in eater.yes])
    return [first, yes] + [rule_line(key, doing) for key, doing in eater.rules]


def rule_line(key, doing):
    """The line of a rule."""
    state, letter, tops = key
    items = ["rule", str(state), str(letter)] + ["-" if top is None else str(top) for top in tops]
    return " ".join(items + [str(doing[0])] + [move_item(move) for move in doing[1]])


def move_item(move):
    """The item of a move."""
    if move is None:
        return "-"
    return move if move == "pop" else str(move[1])


def eater_told(text):
    """The letters, states, stacks, rules and yes of the eater whose text this is."""
    lines = text_lines(text)
    letters, states, stacks = first_told(lines[0])
    yes = want_yes(line_items(lines, 1), 1, states)
    rules = []
    before = None
    for line in range(2, len(lines)):
        key = key_told(lines[line], line, (states, letters, stacks), before)
        rules.append(((key[0], key[1], key[2:]), doing_told(lines[line], line, states, key[2:])))
        before = key
    return letters, states, stacks, rules, yes


def first_told(items):
    """The letters, states and stacks that the first line tells."""
    want_word(items, 0, 0, "eater")
    letters = want_number(items, 0, 1, 1, 6)
    states = want_number(items, 0, 2, 1, MOST_STATES)
    stacks = want_number(items, 0, 3, 0, MOST_STACKS)
    want_end(items, 0, 4)
    return letters, states, stacks


def key_told(items, line, bounds, before):
    """The state, the letter and the tops of a rule one behind another; they come behind the key before them."""
    states, letters, stacks = bounds
    want_word(items, line, 0, "rule")
    key = ()
    for at in range(1, stacks + 3):
        if at > 2:
            part = top_told(items, line, at)
        else:
            part = want_number(items, line, at, 0, (states if at == 1 else letters) - 1)
        key = key + (part,)
        want_behind(key, before, line, at)
    return key


def top_told(items, line, at):
    """The sign on top of a stack, None for an empty one."""
    if at < len(items) and items[at] == "-":
        return None
    return want_number(items, line, at, 0, MOST_SIGN)


def doing_told(items, line, states, tops):
    """The state to which a rule comes, and its moves."""
    first = len(tops) + 3
    state = want_number(items, line, first, 0, states - 1)
    moves = [move_told(items, line, first + 1 + at, top) for at, top in enumerate(tops)]
    want_end(items, line, first + 1 + len(tops))
    return (state, moves)


def move_told(items, line, at, top):
    """The move of a stack with this top."""
    if at < len(items) and items[at] == "-":
        return None
    if at < len(items) and items[at] == "pop" and top is not None:
        return "pop"
    return ("push", want_number(items, line, at, 0, MOST_SIGN))
