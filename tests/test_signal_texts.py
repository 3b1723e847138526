"""Texts of rows of signals: written, read back, and spoilt in every way, against choices listed by the test itself."""

import itertools
import random
import unittest

from backwardrow.signals import Signals
from helpers import NO_STRINGS, error_of
from made_signals import signal_parts_by_chance, text_of_signals

BOUNCE = "kind 1 1\nkind -1 2\nkind 0 1\nmeet 0 2 = 1 2\nborder\nborder 0\nborder\nbegin\nbegin 0\nbegin 2\nflash 0"
ONE = "kind 0 1\nborder 0\nbegin\nflash 0"
MANY = ("kind 1 5\nkind 1 1\nkind -1 3\nkind 0 1\nmeet 0 =\nmeet 0 1 = 2 3\nmeet 0 1 2 = 0 1 2 3\nmeet 0 2 = 3\nmeet 2 = 0\nmeet 3 =\n"
        "border 1 2\nborder\nborder 0 1 2 3\nborder 3\nbegin 0 1 2 3\nbegin\nbegin 3\nbegin 1\nbegin 0 2\nbegin\nflash 3")
TEXTS = (BOUNCE, ONE, MANY)
SPOILT = (
    "", "x", "-", "=", "==", "-1", "-0", "-2", "00", "01", "+1", "1.0", "0", "1", "2", "3", "4", "5", "6", "8", "kind", "meet", "border", "begin",
    "flash", "9" * 60, "1" + "0" * 60, "1" * 5000, "\t", "\u00b2", "\u0661", "1\r", "None",
)


def numbers(least, most):
    return [str(number) for number in range(least, most + 1)]


def first_words(lines, line):
    """The words with which a line can begin, behind right lines."""
    before = [items[0] for items in lines[:line]]
    kinds, meets, borders, begins = (before.count(word) for word in ("kind", "meet", "border", "begin"))
    if "flash" in before:
        return []
    if begins > 0:
        return ["flash"] if begins == 6 else ["begin", "flash"]
    if borders > 0:
        return ["border"] if borders < kinds else ["begin"]
    if kinds == 0:
        return ["kind"]
    if meets > 0:
        return ["border"] if meets == 40 else ["meet", "border"]
    return (["kind"] if kinds < 8 else []) + ["meet", "border"]


def choices(lines, line, at):
    """All items that can stand there behind those before it; every item before is a right one."""
    items = lines[line]
    if at == 0:
        return first_words(lines, line)
    word = items[0]
    many = [other[0] for other in lines[:line]].count("kind")
    if word == "kind":
        if at > 2:
            return []
        return numbers(-1, 1) if at == 1 else ["1"] if items[1] == "0" else numbers(1, 5)
    if word == "flash":
        return numbers(0, many - 1) if at == 1 else []
    behind = numbers(0 if at == 1 or items[at - 1] == "=" else int(items[at - 1]) + 1, many - 1)
    if word == "meet" and "=" not in items[:at] and at > 1:
        lot = [int(item) for item in items[1:at]]
        before = lines[line - 1]
        if before[0] != "meet" or lot > [int(item) for item in before[1:before.index("=")]]:
            return ["=", *behind]
    return behind


def first_wrong(text):
    """The line and the item that the error of a text tells, None if the text is one of a row of signals."""
    lines = [line.split(" ") for line in text.split("\n")]
    for line, items in enumerate(lines):
        for at, item in enumerate(items):
            if item not in choices(lines, line, at):
                return (line, at)
        wanted = {"kind": 3, "flash": 2}.get(items[0], 1)
        if len(items) < wanted or (items[0] == "meet" and "=" not in items):
            return (line, len(items))
    return (len(lines), 0) if lines[-1][0] != "flash" else None


class Written(unittest.TestCase):
    def test_the_one_text(self):
        row = Signals([(1, 1), (-1, 2), (0, 1)], [([0, 2], [1, 2])], [[], [0], []], [[], [0], [2]], 0)
        self.assertEqual(str(row), BOUNCE)
        self.assertEqual(str(Signals([(0, 1)], [], [[0]], [[]], 0)), ONE)
        meets = [([3], []), ([2, 1, 0], [3, 2, 1, 0]), ([2], [0]), ([0], []), ([2, 0], [3]), ([1, 0], [3, 2])]
        row = Signals([(1, 5), (1, 1), (-1, 3), (0, 1)], meets, [[2, 1], [], [3, 1, 2, 0], [3]], [[3, 2, 1, 0], [], [3], [1], [2, 0], []], 3)
        self.assertEqual(str(row), MANY)
        self.assertEqual(row.meets, Signals.read(MANY).meets)

    def test_there_and_back(self):
        for seed in range(200):
            parts = signal_parts_by_chance(seed)
            text = text_of_signals(parts)
            self.assertEqual(str(Signals(*parts)), text)
            again = Signals.read(text=text)
            self.assertIsInstance(again, Signals)
            self.assertIs(again == Signals(*parts), True)
            self.assertIsNone(first_wrong(text))

    def test_the_greatest(self):
        lots = [list(lot) for size in (1, 2, 3) for lot in itertools.combinations(range(8), size)]
        parts = ([(1, 5)] * 8, [(lot, list(range(8))) for lot in lots[:40]], [list(range(8))] * 8, [list(range(8))] * 6, 7)
        text = str(Signals(*parts))
        self.assertEqual(text, text_of_signals(parts))
        self.assertEqual(str(Signals.read(text)), text)
        lines = text.split("\n")
        for at, line, wrong in ((8, "kind 1 1", (8, 0)), (48, "meet 7 =", (48, 0)), (56, "border", (56, 0)), (62, "begin", (62, 0)), (63, "flash 7", (63, 0)), (63, "", (63, 0))):
            new = "\n".join(lines[:at] + [line] + lines[at:])
            self.assertEqual(error_of(Signals.read, new), ("BadText", *wrong))
            self.assertEqual(first_wrong(new), wrong)


class Spoilt(unittest.TestCase):
    def check(self, text):
        wrong = first_wrong(text)
        if wrong is None:
            self.assertEqual(str(Signals.read(text)), text)
        else:
            self.assertEqual(error_of(Signals.read, text), ("BadText", *wrong), text[:300])

    def test_told_by_hand(self):
        two = "kind 1 1\nkind -1 1"
        for text, line, item in (
            ("", 0, 0), ("kind", 0, 1), ("kind 1", 0, 2), ("kind 1 1", 1, 0), ("kind 1 1 1", 0, 3), ("kind 2 1", 0, 1), ("kind -2 1", 0, 1), ("kind 1 0", 0, 2),
            ("kind 1 6", 0, 2), ("kind 0 2", 0, 2), ("kind -1 5", 1, 0), ("border", 0, 0), ("flash 0", 0, 0), (two + "\n", 2, 0), (two + "\nkinds", 2, 0),
            (two + "\nmeet", 2, 1), (two + "\nmeet = 0", 2, 1), (two + "\nmeet =", 2, 1), (two + "\nmeet 0", 2, 2), (two + "\nmeet 0 0 =", 2, 2),
            (two + "\nmeet 1 0 =", 2, 2), (two + "\nmeet 2 =", 2, 1), (two + "\nmeet 0 2 =", 2, 2), (two + "\nmeet 0 = 2", 2, 3), (two + "\nmeet 0 = 1 0", 2, 4),
            (two + "\nmeet 0 = =", 2, 3), (two + "\nmeet 0 = 0 =", 2, 4), (two + "\nmeet 0 =", 3, 0), (two + "\nmeet 0 = ", 2, 3), (two + "\nmeet  0 =", 2, 1),
            (two + "\nmeet 0 =\nmeet 0 = 1", 3, 2), (two + "\nmeet 1 =\nmeet 0 1 =", 3, 3), (two + "\nmeet 0 1 =\nmeet 0 =", 3, 2), (two + "\nmeet 1 =\nmeet 0 x", 3, 2),
            (two + "\nmeet 0 =\nkind 1 1", 3, 0), (two + "\nmeet 0 1 2 =\nkind 0 1", 2, 3), (two + "\nborder 2\nkind 0 1", 2, 1), (two + "\nborder\nbegin", 3, 0),
            (two + "\nborder\nborder", 4, 0), (two + "\nborder\nborder\nborder", 4, 0), (two + "\nborder 0 0", 2, 2), (two + "\nborder 1 0", 2, 2), (two + "\nborder\nmeet 0 =", 3, 0),
            (two + "\nborder\nborder\nflash 0", 4, 0), (two + "\nborder\nborder\nbegin", 5, 0), (two + "\nborder\nborder\nbegin 2", 4, 1), (two + "\nborder\nborder\nbegin 0 1 1", 4, 3),
            (two + "\nborder\nborder\nbegin\nflash", 5, 1), (two + "\nborder\nborder\nbegin\nflash 2", 5, 1), (two + "\nborder\nborder\nbegin\nflash -1", 5, 1),
            (two + "\nborder\nborder\nbegin\nflash 0 0", 5, 2), (two + "\nborder\nborder\nbegin\nflash 0\n", 6, 0), (two + "\nborder\nborder\nbegin\nflash 0\nflash 0", 6, 0),
            ("\n" + BOUNCE, 0, 0), (BOUNCE + "\n", 11, 0), (BOUNCE + " ", 10, 2), (ONE.replace("0 1", "0 1 "), 0, 3), (BOUNCE.replace("=", "=="), 3, 3), (BOUNCE.replace(" = ", " "), 3, 3),
        ):
            self.assertEqual(error_of(Signals.read, text), ("BadText", line, item), text)
            self.assertEqual(first_wrong(text), (line, item), text)

    def test_items_bent_left_out_doubled_put_in(self):
        for text in TEXTS:
            lines = [line.split(" ") for line in text.split("\n")]
            for line, items in enumerate(lines):
                for at in range(len(items) + 1):
                    found = [items[:at] + items[at + 1:], items[:at] + items[max(0, at - 1):], items[:at]]
                    for item in SPOILT:
                        found += [items[:at] + [item] + items[at + 1:], items[:at] + [item] + items[at:]]
                    for other in range(at):
                        new = list(items)
                        new[other:other + 1], new[at:at + 1] = new[at:at + 1], new[other:other + 1]
                        found.append(new)
                    for new in found:
                        self.check("\n".join(" ".join(new if line == place else old) for place, old in enumerate(lines)))

    def test_lines_left_out_doubled_exchanged_put_in(self):
        for text in (*TEXTS, text_of_signals(signal_parts_by_chance(6)), text_of_signals(signal_parts_by_chance(9))):
            lines = text.split("\n")
            for at in range(len(lines) + 1):
                self.check("\n".join(lines[:at] + lines[at + 1:]))
                self.check("\n".join(lines[:at] + lines[at:at + 1] + lines[at:]))
                self.check("\n".join(lines[:at]))
                for place in range(at):
                    new = list(lines)
                    new[place:place + 1], new[at:at + 1] = new[at:at + 1], new[place:place + 1]
                    self.check("\n".join(new))
                for line in ("", " ", "kind", "kind 1 1", "kind 0 1", "meet", "meet 0 =", "meet 1 = 0", "meet 9 =", "border", "border 0", "begin", "begin 0", "flash", "flash 0", "1" * 61):
                    self.check("\n".join(lines[:at] + [line] + lines[at:]))

    def test_by_chance(self):
        chance = random.Random(3)
        for seed in range(2500):
            lines = [line.split(" ") for line in text_of_signals(signal_parts_by_chance(seed % 90)).split("\n")]
            for _ in range(chance.randint(1, 2)):
                items = chance.choice(lines)
                at = chance.randrange(len(items) + 1)
                items[at:at + chance.randint(0, 1)] = [chance.choice(SPOILT) for _ in range(chance.randint(0, 1))]
            self.check("\n".join(" ".join(items) for items in lines))

    def test_line_feeds_and_blanks(self):
        for text in TEXTS:
            for spoilt in ("\n" + text, text + "\n", text + "\n\n", text.replace("\n", "\n\n"), text.replace("\n", "\r\n"), text.replace("\n", " "),
                           text.replace(" ", "  "), " " + text, text + " ", text.replace(" ", "\t"), text.upper()):
                self.check(spoilt)

    def test_very_long_integers(self):
        for number in ("9" * 60, "9" * 61, "-" + "9" * 60, "1" * 5000):
            for text, wrong in (
                (f"kind {number} 1", (0, 1)), (f"kind 1 {number}", (0, 2)), (f"kind 1 1\nmeet {number} =", (1, 1)), (f"kind 1 1\nmeet 0 = {number}", (1, 3)),
                (f"kind 1 1\nborder {number}", (1, 1)), (f"kind 1 1\nborder\nbegin {number}", (2, 1)), (f"kind 1 1\nborder\nbegin\nflash {number}", (3, 1)),
            ):
                self.assertEqual(error_of(Signals.read, text), ("BadText", *wrong))

    def test_no_strings(self):
        for value in (*NO_STRINGS, BOUNCE.encode(), BOUNCE.split("\n"), Signals.read(BOUNCE)):
            self.assertEqual(error_of(Signals.read, value), ("BadText", 0, 0))


if __name__ == "__main__":
    unittest.main()
