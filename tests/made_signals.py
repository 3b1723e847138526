"""Rows of signals for the tests, made by chance from a fixed seed, and each signal moved by the tests themselves."""

import random


def lot_by_chance(chance, many, least=0):
    """An unlike list of kinds, in any order."""
    return chance.sample(range(many), chance.randint(min(least, many), min(many, 3)))


def signal_parts_by_chance(seed, meets=None):
    """The five parameters of a right row of signals."""
    chance = random.Random(seed)
    many = chance.randint(1, 8)
    kinds = []
    for _ in range(many):
        way = chance.choice((-1, 0, 1, 1, -1))
        kinds.append((way, 1 if way == 0 else chance.choice((1, 1, 2, 3, 5))))
    firsts = []
    for _ in range(chance.randint(0, 12) if meets is None else meets):
        lot = lot_by_chance(chance, many, 1)
        if sorted(lot) not in [sorted(first) for first in firsts]:
            firsts.append(lot)
    found = [(first, lot_by_chance(chance, many)) for first in firsts]
    borders = [lot_by_chance(chance, many) for _ in range(many)]
    begins = [lot_by_chance(chance, many) for _ in range(chance.randint(1, 6))]
    return kinds, found, borders, begins, chance.randrange(many)


def strip_of_signals(parts, word, ticks):
    """The strip of a row of these parameters: signals are moved one by one, over all cells."""
    kinds, meets, borders, begins, _ = parts
    cells = [{(kind, 0) for kind in begins[letter]} for letter in word]
    lines = [tuple(tuple(sorted(cell)) for cell in cells)]
    for _ in range(ticks):
        new = [set() for _ in word]
        for place, cell in enumerate(cells):
            for kind, waited in cell:
                way, wait = kinds[kind]
                if way == 0:
                    new[place].add((kind, 0))
                elif waited + 1 != wait:
                    new[place].add((kind, waited + 1))
                elif place + way < 0:
                    new[0].update((other, 0) for other in borders[kind])
                elif place + way < len(word):
                    new[place + way].add((kind, 0))
        cells = [met_by_hand(meets, cell) for cell in new]
        lines.append(tuple(tuple(sorted(cell)) for cell in cells))
    return tuple(lines)


def met_by_hand(meets, cell):
    """A cell's signals behind their meet."""
    for first, second in meets:
        if set(first) == {kind for kind, _ in cell}:
            kept = {signal for signal in cell if signal[0] in second}
            return kept | {(kind, 0) for kind in second if kind not in first}
    return cell


def text_of_signals(parts):
    """The text of a row of these parameters."""
    kinds, meets, borders, begins, flash = parts
    lines = [["kind", way, wait] for way, wait in kinds]
    lines += [["meet", *first, "=", *second] for first, second in sorted((sorted(first), sorted(second)) for first, second in meets)]
    lines += [["border", *sorted(lot)] for lot in borders] + [["begin", *sorted(lot)] for lot in begins] + [["flash", flash]]
    return "\n".join(" ".join(map(str, line)) for line in lines)
