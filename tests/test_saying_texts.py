"""backwardrow.saying_texts: texts written, read back, and spoilt in every way, against choices listed by the test itself."""

import random
import unittest

from backwardrow.papers import fixed
from backwardrow.saying_texts import saying_read, saying_text
from backwardrow.sayings import is_saying
from helpers import HUGE, NO_STRINGS, ODD, error_of
from made_sayings import KINDS, saying_by_chance, single_by_chance, text_by_hand, within_by_hand

TEXTS = (
    "begins 0", "ends 5", "has 1 3", "has 6 0 1 0 0 5 5", "length 2 1", "length 6 0", "many 0 1", "nested 5 4", "then 2 1 0", "then 4 0 1 0 2",
    "mirror", "not mirror", "both many 0 1 not begins 1", "either has 2 1 0 then 3 2 1 2", "not not not not not length 3 2",
    "both both mirror ends 1 either not has 1 0 nested 2 1",
)
WORDS = ["begins", "ends", "has", "length", "many", "nested", "then", "mirror", "not", "both", "either"]
SPOILT = (
    "", "x", "mirrors", "Not", "-", "/", "-1", "-0", "00", "01", "+1", "1.0", "0", "1", "2", "3", "4", "5", "6", "7", "9" * 60, "1" + "0" * 60,
    "1" * 5000, "\t", "\u00b2", "\u0661", "1\r", "None", "mirror", "not", "both", "begins", "has", "then",
)


def numbers(least, most):
    return [str(number) for number in range(least, most + 1)]


def wants_behind(word, depth):
    """What is wanted behind the word of a saying: each a list of items, or something that hangs on what came before."""
    if word in ("begins", "ends"):
        return [numbers(0, 5)]
    if word == "has":
        return ["few 1 6"]
    if word == "then":
        return ["few 2 4"]
    if word == "length":
        return [numbers(2, 6), "rest"]
    if word in ("many", "nested"):
        return [numbers(0, 5), "unlike"]
    return [("saying", depth + 1)] * (0 if word == "mirror" else 1 if word == "not" else 2)


def first_wrong(text):
    """The line and the item that the error of a text tells, None if the text is one of a saying."""
    lines = text.split("\n")
    items = lines[0].split(" ")
    wanted = [("saying", 1)]
    at = words = 0
    while wanted:
        want = wanted.pop(0)
        behind = []
        if isinstance(want, tuple):
            choices = WORDS if want[1] <= 6 and words < 16 else []
            words += 1
            behind = wants_behind(items[at], want[1]) if at < len(items) and items[at] in choices else []
        elif want == "rest":
            choices = numbers(0, int(items[at - 1]) - 1)
        elif want == "unlike":
            choices = [letter for letter in numbers(0, 5) if letter != items[at - 1]]
        elif want == "few 1 6" or want == "few 2 4":
            choices = numbers(int(want[4]), int(want[6]))
            if at < len(items) and items[at] in choices:
                behind = [numbers(0, 5)] + [numbers(0, 5) if want == "few 1 6" else "unlike"] * (int(items[at]) - 1)
        else:
            choices = want
        if at >= len(items) or items[at] not in choices:
            return (0, at)
        at += 1
        wanted = behind + wanted
    if at < len(items):
        return (0, at)
    return (1, 0) if len(lines) > 1 else None


class Written(unittest.TestCase):
    def test_the_one_text(self):
        for saying, text in (
            (("begins", 3), "begins 3"), (["ends", 0], "ends 0"), (("has", [1, 0]), "has 2 1 0"), (["has", (5,)], "has 1 5"), (("length", 6, 5), "length 6 5"),
            (("many", 0, 5), "many 0 5"), (("nested", 5, 0), "nested 5 0"), (("then", [0, 1, 0, 1]), "then 4 0 1 0 1"), (("mirror",), "mirror"), (["mirror"], "mirror"),
            (("not", ["ends", 1]), "not ends 1"), (("both", ("not", ("mirror",)), ("begins", 0)), "both not mirror begins 0"),
            (("either", ("both", ("ends", 1), ("ends", 2)), ("has", [0])), "either both ends 1 ends 2 has 1 0"),
        ):
            self.assertEqual(saying_text(saying), text)
            self.assertEqual(saying_text(saying=saying), text)
            self.assertEqual(text_by_hand(saying), text)
            self.assertEqual(saying_read(text), fixed(saying))

    def test_there_and_back(self):
        chance = random.Random(1)
        sayings = [saying_by_chance(chance, chance.randint(1, 6)) for _ in range(400)]
        sayings += [single_by_chance(chance, 6, kind) for kind in KINDS for _ in range(20)]
        for saying in sayings:
            text = saying_text(saying)
            self.assertEqual(text, text_by_hand(saying))
            again = saying_read(text=text)
            # repr, too, as lists within would be seen there.
            self.assertEqual((again, repr(again)), (fixed(saying), repr(fixed(saying))))
            self.assertIs(is_saying(again), True)
            self.assertIsNone(first_wrong(text))

    def test_what_is_passed_stays(self):
        saying = ["both", ["has", [0, 1]], ["not", ["then", [1, 0]]]]
        saying_text(saying)
        self.assertEqual(saying, ["both", ["has", [0, 1]], ["not", ["then", [1, 0]]]])

    def test_no_sayings(self):
        for value in (None, True, 0, "mirror", b"mirror", (), [], ("mirrors",), ("many", 1, 1), ("begins", 6), ("has", [True]), {}, {"mirror": 1}, ODD, HUGE):
            self.assertEqual(error_of(saying_text, value), ("BadSaying", "saying"))


class Spoilt(unittest.TestCase):
    def check(self, text):
        wrong = first_wrong(text)
        if wrong is None:
            self.assertEqual(saying_text(saying_read(text)), text)
        else:
            self.assertEqual(error_of(saying_read, text), ("BadText", *wrong), text[:300])

    def test_told_by_hand(self):
        for text, line, item in (
            ("", 0, 0), ("x", 0, 0), (" mirror", 0, 0), ("mirror ", 0, 1), ("mirror 0", 0, 1), ("mirror\n", 1, 0), ("mirror\nmirror", 1, 0), ("\nmirror", 0, 0),
            ("mirror 0\n", 0, 1), ("begins", 0, 1), ("begins 6", 0, 1), ("begins -1", 0, 1), ("begins 0 0", 0, 2), ("ends  0", 0, 1), ("begins\n0", 0, 1),
            ("has", 0, 1), ("has 0", 0, 1), ("has 7", 0, 1), ("has 2 0", 0, 3), ("has 2 0 6", 0, 3), ("has 1 0 0", 0, 3), ("has 0 1", 0, 1),
            ("length 1 0", 0, 1), ("length 7 0", 0, 1), ("length 2 2", 0, 2), ("length 6 6", 0, 2), ("length 6", 0, 2), ("length 2 -1", 0, 2), ("length 3 1 0", 0, 3),
            ("many 1", 0, 2), ("many 1 1", 0, 2), ("nested 0 0", 0, 2), ("nested 6 0", 0, 1), ("nested 0 6", 0, 2), ("many 0 1 2", 0, 3),
            ("then 1 0", 0, 1), ("then 5 0 1 0 1 0", 0, 1), ("then 2 0 0", 0, 3), ("then 4 0 1 1 0", 0, 4), ("then 3 0 1", 0, 4), ("then 3 0 1 1", 0, 4),
            ("not", 0, 1), ("both mirror", 0, 2), ("both mirror mirror mirror", 0, 3), ("either", 0, 1), ("either mirror x", 0, 2), ("not not", 0, 2),
            ("not not not not not not mirror", 0, 6), ("not not not not not not", 0, 6), ("not not not not not both mirror mirror", 0, 6),
            ("not not not not not not x", 0, 6), ("both not not not not not mirror mirror", 0, 6), ("either mirror not not not not not mirror", 0, 7),
        ):
            self.assertEqual(error_of(saying_read, text), ("BadText", line, item), text)
            self.assertEqual(first_wrong(text), (line, item), text)

    def test_the_17th(self):
        seven = "both both mirror mirror both mirror mirror"
        self.assertIs(is_saying(saying_read(f"not both {seven} {seven}")), True)
        self.assertEqual(len(within_by_hand(saying_read(f"not both {seven} {seven}"))), 16)
        self.assertEqual(error_of(saying_read, f"both both {seven} {seven} mirror"), ("BadText", 0, 16))
        self.assertEqual(error_of(saying_read, f"both both {seven} {seven} x"), ("BadText", 0, 16))
        self.assertEqual(error_of(saying_read, f"both both {seven} {seven}"), ("BadText", 0, 16))
        eight = "both both mirror mirror both mirror not ends 1"
        self.assertEqual(error_of(saying_read, f"both {seven} {eight}"), ("none", fixed(["both", saying_read(seven), saying_read(eight)])))
        self.assertEqual(error_of(saying_read, f"both {eight} {eight}"), ("BadText", 0, 17))
        # 17 words, but one of them is a letter's item too late.
        self.assertEqual(error_of(saying_read, f"both {eight} both both ends 1 mirror both mirror not mirror"), ("BadText", 0, 18))

    def test_items_bent_left_out_doubled_put_in(self):
        for text in TEXTS:
            items = text.split(" ")
            for at in range(len(items) + 1):
                for item in SPOILT:
                    self.check(" ".join(items[:at] + [item] + items[at + 1:]))
                    self.check(" ".join(items[:at] + [item] + items[at:]))
                self.check(" ".join(items[:at] + items[at + 1:]))
                self.check(" ".join(items[:at] + items[max(0, at - 1):]))
                self.check(" ".join(items[:at]))
                for other in range(at):
                    new = list(items)
                    new[other:other + 1], new[at:at + 1] = new[at:at + 1], new[other:other + 1]
                    self.check(" ".join(new))

    def test_by_chance(self):
        chance = random.Random(2)
        for _ in range(3000):
            items = text_by_hand(saying_by_chance(chance, 6)).split(" ")
            for _ in range(chance.randint(1, 2)):
                at = chance.randrange(len(items) + 1)
                items[at:at + chance.randint(0, 1)] = [chance.choice(SPOILT) for _ in range(chance.randint(0, 1))]
            self.check(" ".join(items))

    def test_by_chance_with_many_within(self):
        chance = random.Random(3)
        for _ in range(1500):
            items = []
            while len(items) < 24:
                items.append(chance.choice(("not", "both", "either", "mirror", "mirror", "mirror")))
            self.check(" ".join(items))
            self.check(" ".join(["both"] + items))

    def test_line_feeds_and_blanks(self):
        for text in TEXTS:
            for spoilt in ("\n" + text, text + "\n", text + "\n\n", text.replace(" ", "\n", 1), text.replace(" ", "  "), " " + text, text + " ",
                           text.replace(" ", "\t"), text.upper(), text + "\n" + text, text + "\r"):
                self.check(spoilt)

    def test_very_long_integers(self):
        for number in ("9" * 60, "9" * 61, "-" + "9" * 60, "-" + "9" * 61, "1" * 5000, "0" * 60):
            for text, at in (("begins {}", 1), ("has {} 0", 1), ("has 2 0 {}", 3), ("length {} 0", 1), ("length 2 {}", 2), ("many 0 {}", 2), ("then {} 0 1", 1)):
                self.assertEqual(error_of(saying_read, text.replace("{}", number)), ("BadText", 0, at))

    def test_no_strings(self):
        for value in (*NO_STRINGS, b"mirror", ("mirror",), ["mirror"]):
            self.assertEqual(error_of(saying_read, value), ("BadText", 0, 0))


if __name__ == "__main__":
    unittest.main()
