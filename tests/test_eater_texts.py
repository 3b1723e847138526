"""Texts of eaters: written, read back, and spoilt in every way, against choices listed by the test itself."""

import random
import unittest

from backwardrow.eaters import Eater
from helpers import NO_STRINGS, error_of
from made import eater_parts_by_chance, evens_parts, turning_parts

EVENS = "eater 2 3 1\nyes 2\nrule 0 0 - 0 0\nrule 0 0 0 0 1\nrule 0 0 1 0 1\nrule 0 1 0 2 pop\nrule 0 1 1 1 pop\nrule 1 1 0 2 pop\nrule 1 1 1 1 pop"
THIRDS = "eater 2 3 0\nyes 0\nrule 0 0 1\nrule 0 1 1\nrule 1 0 2\nrule 1 1 2\nrule 2 0 0\nrule 2 1 0"
TWO = "eater 1 12 2\nyes 0 2 10 11\nrule 0 0 - - 1 0 -\nrule 0 0 - 3 11 3 pop\nrule 0 0 0 - 1 pop 2\nrule 2 0 3 3 0 - -\nrule 10 0 2 - 11 pop -"
NONE = "eater 6 1 0\nyes"
TEXTS = (EVENS, THIRDS, TWO, NONE)
SPOILT = (
    "", "x", "-", "pop", "push", "rule", "yes", "eater", "-1", "-0", "00", "01", "+1", "1.0", "0", "1", "2", "3", "4", "12", "13", "9" * 60,
    "1" + "0" * 60, "1" * 5000, "\t", "\u00b2", "\u0661", "1\r", "None",
)
SIGNS = ["0", "1", "2", "3"]


def numbers(least, most):
    return [str(number) for number in range(least, most + 1)]


def choices(lines, line, at):
    """All items that can stand there behind those before it; every item before is a right one."""
    items = lines[line]
    if line == 0:
        return [["eater"], numbers(1, 6), numbers(1, 12), numbers(0, 2)][at] if at < 4 else []
    letters, states, stacks = (int(item) for item in lines[0][1:])
    if line == 1:
        if at == 0:
            return ["yes"]
        return numbers(0 if at == 1 else int(items[at - 1]) + 1, states - 1)
    if at == 0:
        return ["rule"]
    if at > 2 + stacks:
        place = at - 4 - stacks
        if place >= stacks:
            return []
        moves = ["-", *SIGNS] if place >= 0 and items[3 + place] == "-" else ["-", "pop", *SIGNS]
        return numbers(0, states - 1) if place < 0 else moves
    ordered = numbers(0, (states, letters)[at - 1] - 1) if at < 3 else ["-", *SIGNS]
    if line > 2 and items[1:at] == lines[line - 1][1:at]:
        place = ordered.index(lines[line - 1][at])
        return ordered[place + 1:] if at == 2 + stacks else ordered[place:]
    return ordered


def first_wrong(text):
    """The line and the item that the error of a text tells, None if the text is one of an eater."""
    lines = [line.split(" ") for line in text.split("\n")]
    for line, items in enumerate(lines):
        for at, item in enumerate(items):
            if item not in choices(lines, line, at):
                return (line, at)
        wanted = 4 if line == 0 else 1 if line == 1 else 4 + 2 * int(lines[0][3])
        if len(items) < wanted:
            return (line, len(items))
    return (1, 0) if len(lines) < 2 else None


class Written(unittest.TestCase):
    def test_the_one_text(self):
        self.assertEqual(str(Eater(*evens_parts())), EVENS)
        thirds = {(state, letter, ()): ([1, 2, 0][state], ()) for letter in (1, 0) for state in (2, 0, 1)}
        self.assertEqual(str(Eater(2, 3, 0, thirds, [0])), THIRDS)
        rules = [
            ((10, 0, (2, None)), (11, ["pop", None])), ((0, 0, (0, None)), (1, ["pop", ("push", 2)])), ((2, 0, [3, 3]), (0, [None, None])),
            ((0, 0, (None, 3)), (11, [("push", 3), "pop"])), ((0, 0, (None, None)), (1, [["push", 0], None]))]
        self.assertEqual(str(Eater(1, 12, 2, rules, [10, 2, 11, 0])), TWO)
        self.assertEqual(str(Eater(6, 1, 0, [], [])), NONE)

    def test_read(self):
        self.assertEqual(Eater.read(EVENS).rules, Eater(*evens_parts()).rules)
        eater = Eater.read(text=TWO)
        self.assertEqual((eater.letters, eater.states, eater.stacks, eater.yes), (1, 12, 2, (0, 2, 10, 11)))
        self.assertEqual(eater.rules[1], ((0, 0, (None, 3)), (11, (("push", 3), "pop"))))
        self.assertIsInstance(eater, Eater)

    def test_there_and_back(self):
        for seed in range(60):
            eater = Eater(*eater_parts_by_chance(seed))
            again = Eater.read(str(eater))
            self.assertIs(again == eater, True)
            self.assertEqual(str(again), str(eater))
            self.assertIsNone(first_wrong(str(eater)))
        for text in (*TEXTS, str(Eater(*turning_parts()))):
            self.assertEqual(str(Eater.read(text)), text)

    def test_texts_that_differ_read_apart(self):
        self.assertIs(Eater.read(EVENS) == Eater.read(THIRDS), False)


class Spoilt(unittest.TestCase):
    def check(self, text):
        wrong = first_wrong(text)
        if wrong is None:
            self.assertEqual(str(Eater.read(text)), text)
        else:
            self.assertEqual(error_of(Eater.read, text), ("BadText", *wrong), text[:300])

    def test_told_by_hand(self):
        for text, line, item in (
            ("", 0, 0), ("eater", 0, 1), ("Eater 2 3 1\nyes", 0, 0), ("eater 7 3 1\nyes", 0, 1), ("eater 0 3 1\nyes", 0, 1), ("eater 2", 0, 2),
            ("eater 2 13 1\nyes", 0, 2), ("eater 2 0 1", 0, 2), ("eater 2 3", 0, 3), ("eater 2 3 3", 0, 3), ("eater 2 3 -1", 0, 3),
            ("eater 2 3 1 1\nyes", 0, 4), ("eater 2 3 1 ", 0, 4), ("eater 2 3 1", 1, 0), ("eater 2 3 1\n", 1, 0), ("eater 2 3 1\nno", 1, 0),
            ("eater 2 3 1\nyes 3", 1, 1), ("eater 2 3 1\nyes 1 1", 1, 2), ("eater 2 3 1\nyes 2 0", 1, 2), ("eater 2 3 1\nyes ", 1, 1),
            (EVENS + "\n", 9, 0), (EVENS + "\nrule", 9, 1), (EVENS + "\nrule 1 1 1 1 pop", 9, 3), (EVENS + "\nrule 1 1 0 1 pop", 9, 3),
            (EVENS + "\nrule 1 0", 9, 2), (EVENS + "\nrule 0", 9, 1), (EVENS + "\nrule 1", 9, 2), (EVENS + "\nrule 1 1", 9, 3),
            (EVENS + "\nrule 1 1 2", 9, 4), (EVENS + "\nrule 1 1 2 0", 9, 5), (EVENS + "\nrule 1 1 2 0 pop 0", 9, 6), (EVENS + "\nrule 1 1 4 0 -", 9, 3),
            (EVENS + "\nrule 2 0 - 0 pop", 9, 5), (EVENS + "\nrule 2 0 - 3 -", 9, 4), (EVENS + "\nrule 2 2 - 0 -", 9, 2), (EVENS + "\nrule 3 0 - 0 -", 9, 1),
            (EVENS + "\nrule 2 0 - - 0", 9, 4), (EVENS + "\nrule 2 - - 0 0", 9, 2), (EVENS + "\nrule 2 0 0 0 push", 9, 5), (EVENS + "\nrule 2 0 pop 0 0", 9, 3),
            (EVENS + "\nrule 2 0 0 0 4", 9, 5), (EVENS + "\nrules 2 0 0 0 3", 9, 0), (EVENS + "\n2 0 0 0 3", 9, 0), (THIRDS + "\nrule 2 1 1", 8, 2),
            (THIRDS + "\nrule 2 0 1", 8, 2), (THIRDS + "\nrule 1 1 1", 8, 1), ("eater 2 3 0\nyes\nrule 0 0 0 -", 2, 4), ("eater 2 3 0\nyes\nrule 0 0", 2, 3),
            (TWO + "\nrule 10 0 2 - 0 - -", 7, 4), (TWO + "\nrule 10 0 1 3 0 - -", 7, 3), (TWO + "\nrule 10 0 - 0 0 - -", 7, 3), (TWO + "\nrule 9 0 3 3 0 - -", 7, 1),
            (TWO + "\nrule 10 0 3 - 0 pop pop", 7, 7), (TWO + "\nrule 11 0 - 3 0 pop pop", 7, 6), (TWO + "\nrule 11 0 - 3 0 pop", 7, 6),
            ("eater 2 1 0\nyes\nrule 0 1 0\nrule 0 0 0", 3, 2), ("\n" + EVENS, 0, 0), (EVENS.replace("yes", "Yes"), 1, 0),
        ):
            self.assertEqual(error_of(Eater.read, text), ("BadText", line, item), text)
            self.assertEqual(first_wrong(text), (line, item), text)

    def test_items_bent_left_out_doubled_put_in(self):
        for text in TEXTS:
            lines = [line.split(" ") for line in text.split("\n")]
            for line, items in enumerate(lines):
                for at in range(len(items) + 1):
                    for item in SPOILT:
                        for new in (items[:at] + [item] + items[at + 1:], items[:at] + [item] + items[at:]):
                            self.check("\n".join(" ".join(new if line == place else old) for place, old in enumerate(lines)))
                    for new in (items[:at] + items[at + 1:], items[:at] + items[at - 1:], items[:at][::-1] + items[at:]):
                        self.check("\n".join(" ".join(new if line == place else old) for place, old in enumerate(lines)))
                    for other in range(at):
                        new = list(items)
                        new[other:other + 1], new[at:at + 1] = new[at:at + 1], new[other:other + 1]
                        self.check("\n".join(" ".join(new if line == place else old) for place, old in enumerate(lines)))

    def test_lines_left_out_doubled_exchanged_put_in(self):
        for text in (*TEXTS, str(Eater(*eater_parts_by_chance(6))), str(Eater(*eater_parts_by_chance(3)))):
            lines = text.split("\n")
            for at in range(len(lines)):
                self.check("\n".join(lines[:at] + lines[at + 1:]))
                self.check("\n".join(lines[:at] + lines[at:at + 1] + lines[at:]))
                self.check("\n".join(lines[:at + 1]))
                for place in range(len(lines)):
                    new = list(lines)
                    new[at], new[place] = new[place], new[at]
                    self.check("\n".join(new))
                for line in ("", " ", "yes", "rule", "rule 0 0 0", "rule 0 0 - 0 -", "rule 0 0 - - 0 - -", "rule 1 1 3 0 pop", "eater 2 3 1", "1" * 61):
                    self.check("\n".join(lines[:at] + [line] + lines[at:]))

    def test_line_feeds_and_blanks(self):
        for text in TEXTS:
            for spoilt in ("\n" + text, text + "\n", text + "\n\n", text.replace("\n", "\n\n"), text.replace("\n", "\r\n"), text.replace("\n", " "),
                           text.replace(" ", "  "), " " + text, text + " ", text.replace(" ", "\t"), text.upper()):
                self.check(spoilt)

    def test_very_long_integers(self):
        for number in ("9" * 60, "9" * 61, "-" + "9" * 60, "-" + "9" * 61, "1" * 5000, "-" + "1" * 5000):
            for text, wrong in (
                (f"eater {number} 3 1", (0, 1)), (f"eater 2 {number} 1", (0, 2)), (f"eater 2 3 {number}", (0, 3)), (f"eater 2 3 1\nyes {number}", (1, 1)),
                (f"{EVENS}\nrule {number} 0 - 0 -", (9, 1)), (f"{EVENS}\nrule 2 {number} - 0 -", (9, 2)), (f"{EVENS}\nrule 2 0 {number} 0 -", (9, 3)),
                (f"{EVENS}\nrule 2 0 - {number} -", (9, 4)), (f"{EVENS}\nrule 2 0 - 0 {number}", (9, 5)),
            ):
                self.assertEqual(error_of(Eater.read, text), ("BadText", *wrong))

    def test_by_chance(self):
        chance = random.Random(12)
        signs = ["-", "0", "1", "2", "3", "4", "pop", "rule", "yes", "", "6", "12"]
        for seed in range(1500):
            lines = [line.split(" ") for line in str(Eater(*eater_parts_by_chance(seed % 60))).split("\n")]
            lines = lines[:2] + lines[2:][:8 + seed % 5]
            for _ in range(chance.randint(1, 2)):
                items = chance.choice(lines)
                at = chance.randrange(len(items) + 1)
                cut = at + chance.randint(0, 1)
                items[at:cut] = [chance.choice(signs) for _ in range(chance.randint(0, 1))]
            self.check("\n".join(" ".join(items) for items in lines))

    def test_no_strings(self):
        for value in (*NO_STRINGS, EVENS.encode(), EVENS.split("\n"), Eater.read(EVENS)):
            self.assertEqual(error_of(Eater.read, value), ("BadText", 0, 0))


if __name__ == "__main__":
    unittest.main()
