"""Texts of tables: written, read back, and spoilt in every way, against choices listed by the test itself."""

import random
import unittest

from backwardrow.tables import Table
from helpers import NO_STRINGS, error_of
from made import keys_of, table_by_chance

SOME = "ways 2 letters 2 worths 3\nyes 0 2\n- 0 - > 1\n- 0 1 > 2\n0 1 - > 0\n0 2 2 > 1\n2 0 0 > 2"
LAST = "ways 1 letters 2 worths 3\nyes 1 2\n- 0 > 2\n1 0 > 1\n1 1 > 2"
SPOILT = (
    "", "x", "-", ">", "yes", "ways", "-1", "-0", "00", "01", "+1", "1.0", "0", "1", "2", "3", "12", "13", "9" * 60,
    "1" + "0" * 60, "1" * 5000, "\t", "\u00b2", "\u0661", "1\r",
)


def choices(lines, line, at):
    """All items that can stand there behind those before it; every item before is a right one."""
    items = lines[line]
    if line == 0:
        if at > 5:
            return []
        least = int(items[3]) if at == 5 else 0
        counts = [str(number) for number in range(least, 13)]
        return [["ways"], ["1", "2"], ["letters"], ["1", "2", "3", "4", "5", "6"], ["worths"], counts][at]
    ways, worths = int(lines[0][1]), int(lines[0][5])
    numbers = [str(number) for number in range(worths)]
    if line == 1:
        if at == 0:
            return ["yes"]
        return numbers if at == 1 else numbers[int(items[at - 1]) + 1:]
    if at > ways:
        return {ways + 1: [">"], ways + 2: numbers}.get(at, [])
    ordered = numbers if at == 1 else ["-"] + numbers
    if line > 2 and items[:at] == lines[line - 1][:at]:
        place = ordered.index(lines[line - 1][at])
        return ordered[place + 1:] if at == ways else ordered[place:]
    return ordered


def first_wrong(text):
    """The line and the item that the error of a text tells, None if the text is one of a table."""
    lines = [line.split(" ") for line in text.split("\n")]
    for line, items in enumerate(lines):
        for at, item in enumerate(items):
            if item not in choices(lines, line, at):
                return (line, at)
        wanted = 6 if line == 0 else 1 if line == 1 else int(lines[0][1]) + 3
        if len(items) < wanted:
            return (line, len(items))
    return (1, 0) if len(lines) < 2 else None


class Written(unittest.TestCase):
    def test_the_one_text(self):
        table = Table(2, 2, 3, [((2, 0, 0), 2), ((0, 2, 2), 1), ((None, 0, 1), 2), ((0, 1, None), 0), ((None, 0, None), 1)], [2, 0])
        self.assertEqual(str(table), SOME)
        self.assertEqual(str(Table(1, 2, 3, {(1, 1): 2, (None, 0): 2, (1, 0): 1}, (2, 1))), LAST)
        self.assertEqual(str(Table(1, 1, 1, [], [])), "ways 1 letters 1 worths 1\nyes")
        self.assertEqual(str(Table(2, 6, 12, {(11, 10, None): 11}, [11, 10])), "ways 2 letters 6 worths 12\nyes 10 11\n11 10 - > 11")

    def test_there_and_back(self):
        for seed in range(150):
            table = table_by_chance(seed)
            again = Table.read(text=str(table))
            self.assertIs(again == table, True)
            self.assertEqual(str(again), str(table))

    def test_twelve_worths_ascend_as_numbers(self):
        rules = [(key, 11) for key in keys_of(1, 12)]
        table = Table(1, 6, 12, rules, [])
        self.assertEqual(str(table).split("\n")[2:5], ["- 0 > 11", "- 1 > 11", "- 2 > 11"])
        self.assertEqual(str(table).split("\n")[11:14], ["- 9 > 11", "- 10 > 11", "- 11 > 11"])
        self.assertIs(Table.read(str(table)) == table, True)

    def test_texts_that_differ_read_apart(self):
        self.assertIs(Table.read(SOME) == Table.read(LAST), False)


class Spoilt(unittest.TestCase):
    def check(self, text):
        wrong = first_wrong(text)
        if wrong is None:
            self.assertEqual(str(Table.read(text)), text)
        else:
            self.assertEqual(error_of(Table.read, text), ("BadText", *wrong), text[:300])

    def test_told_by_hand(self):
        for text, line, item in (
            ("", 0, 0), ("ways", 0, 1), ("ways 3", 0, 1), ("ways 2 letters 2 worths 3", 1, 0), ("ways 2 letters 2 worths", 0, 5),
            ("ways 2 letters 2 worths 1\nyes", 0, 5), ("ways 2 letters 2 worths 13\nyes", 0, 5), ("ways 2 letters 7 worths 9", 0, 3),
            ("ways 2 letters 2 worths 3 4\nyes", 0, 6), ("ways 2 letters 2 worths 3\n", 1, 0), ("\n" + SOME, 0, 0),
            (SOME + "\n", 7, 0), (LAST + "\n", 5, 0), ("ways 2 letters 2 worths 3\nyes 1 1", 1, 2), (SOME + "\n2 0 0 > 1", 7, 2),
            ("ways 2 letters 2 worths 3\nyes 2 0", 1, 2), ("ways 2 letters 2 worths 3\nyes 3", 1, 1), (SOME + "\n2 0 - > 1", 7, 2),
            ("ways 2 letters 2 worths 3\nyes ", 1, 1), (SOME + "\n1 0 0 > 1", 7, 0), (SOME + "\n- 2 2 > 1", 7, 0),
            (SOME + "\n2", 7, 1), (SOME + "\n2 0", 7, 2), (SOME + "\n2 0 1", 7, 3), (SOME + "\n2 0 1 >", 7, 4), (SOME + "\n2 0 1 > 1 ", 7, 5),
            (SOME + "\n2 - 1 > 1", 7, 1), (SOME + "\n2 0 1 1 > 1", 7, 3), (SOME + "\n2 1 > 1", 7, 2), (LAST + "\n1 1 > 1", 5, 1),
            (LAST + "\n0 2 > 1", 5, 0), (LAST + "\n1 0 > 1", 5, 1), (LAST + "\n2 - > 1", 5, 1), (LAST + "\n2 0 0 > 1", 5, 2),
            (LAST + "\n2 0 > 3", 5, 3), (LAST + "\n2 0 > -", 5, 3), (LAST + "\n2 0 > 1 1", 5, 4), (LAST.replace("yes", "Yes"), 1, 0),
        ):
            self.assertEqual(error_of(Table.read, text), ("BadText", line, item), text)
            self.assertEqual(first_wrong(text), (line, item), text)

    def test_items_bent_left_out_put_in(self):
        for text in (SOME, LAST, "ways 1 letters 1 worths 1\nyes", "ways 2 letters 6 worths 12\nyes 11\n11 10 - > 11"):
            lines = [line.split(" ") for line in text.split("\n")]
            for line, items in enumerate(lines):
                for at in range(len(items) + 1):
                    for item in SPOILT:
                        for new in (items[:at] + [item] + items[at + 1:], items[:at] + [item] + items[at:]):
                            self.check("\n".join(" ".join(new if line == place else old) for place, old in enumerate(lines)))
                    for new in (items[:at] + items[at + 1:], items[:at] + items[at - 1:], items[:at][::-1] + items[at:]):
                        self.check("\n".join(" ".join(new if line == place else old) for place, old in enumerate(lines)))

    def test_lines_left_out_doubled_exchanged_put_in(self):
        for text in (SOME, LAST, str(table_by_chance(7, ways=2)), str(table_by_chance(9, ways=1))):
            lines = text.split("\n")
            for at in range(len(lines)):
                self.check("\n".join(lines[:at] + lines[at + 1:]))
                self.check("\n".join(lines[:at] + lines[at:at + 1] + lines[at:]))
                self.check("\n".join(lines[:at + 1]))
                for place in range(len(lines)):
                    new = list(lines)
                    new[at], new[place] = new[place], new[at]
                    self.check("\n".join(new))
                for line in ("", " ", "yes", "0 0 > 0", "0 0 0 > 0", "- 0 > 0", "2 2 2 > 2", "2 2 > 2", "1" * 61):
                    self.check("\n".join(lines[:at] + [line] + lines[at:]))

    def test_line_feeds_in_front_and_behind(self):
        for text in (SOME, LAST):
            self.check("\n" + text)
            self.check(text + "\n")
            self.check(text + "\n\n")
            self.check(text.replace("\n", "\n\n"))
            self.check(text.replace("\n", "\r\n"))
            self.check(text.replace("\n", " "))
            self.check(text.replace(" ", "  "))
            self.check(" " + text)
            self.check(text + " ")

    def test_very_long_integers(self):
        for number in ("9" * 60, "9" * 61, "-" + "9" * 60, "-" + "9" * 61, "1" * 5000, "-" + "1" * 5000):
            for text, wrong in (
                (f"ways {number} letters 2 worths 3", (0, 1)), (f"ways 2 letters {number} worths 3", (0, 3)),
                (f"ways 2 letters 2 worths {number}", (0, 5)), (f"ways 2 letters 2 worths 3\nyes {number}", (1, 1)),
                (f"{SOME}\n{number} 0 0 > 0", (7, 0)), (f"{SOME}\n2 1 0 > {number}", (7, 4)),
            ):
                self.assertEqual(error_of(Table.read, text), ("BadText", *wrong))

    def test_by_chance(self):
        chance = random.Random(11)
        signs = ["-", "0", "1", "2", "3", "4", "5", ">", "yes", "", "6", "12", "13"]
        for seed in range(1500):
            lines = [line.split(" ") for line in str(table_by_chance(seed % 60)).split("\n")][:9]
            for _ in range(chance.randint(1, 2)):
                items = chance.choice(lines)
                at = chance.randrange(len(items) + 1)
                cut = at + chance.randint(0, 1)
                items[at:cut] = [chance.choice(signs) for _ in range(chance.randint(0, 1))]
            self.check("\n".join(" ".join(items) for items in lines))

    def test_no_strings(self):
        for value in (*NO_STRINGS, SOME.encode(), SOME.split("\n"), Table.read(SOME)):
            self.assertEqual(error_of(Table.read, value), ("BadText", 0, 0))


if __name__ == "__main__":
    unittest.main()
