"""What the tests of desks need: lines made by chance, the item at which a line cannot stand, and a desk by hand."""

import test_saying_texts
import test_table_texts
from backwardrow.folds import TwoWays
from backwardrow.joined import Both, Either, Not, Renamed
from backwardrow.slants import OneWay
from backwardrow.sped import Sped
from backwardrow.spoken import row_of
from backwardrow.tables import Table
from backwardrow.saying_texts import saying_read
from made import strip_of, table_by_chance, told_of, words_over
from made_sayings import saying_by_chance, text_by_hand

FORMS = {
    "table": "name table", "saying": "name letters saying", "oneway": "name name", "twoways": "name name", "not": "name name",
    "both": "name name name", "either": "name name name", "renamed": "name name few", "sped": "name name by", "drop": "name", "undo": "", "again": "",
    "log": "", "names": "", "told": "name word", "said": "name tick word", "due": "name many", "words": "name many", "unlike": "name name most",
    "picture": "name tick word", "text": "name",
}
BOUNDS = {"letters": (1, 6), "by": (2, 4), "tick": (0, 1000), "many": (1, 200), "most": (1, 12)}
KEPT = ("table", "saying", "oneway", "twoways", "not", "both", "either", "renamed", "sped", "drop")


def is_number(item, least, most):
    return item in [str(number) for number in range(least, most + 1)]


def is_name(item):
    good = all("a" <= sign <= "z" or "0" <= sign <= "9" for sign in item)
    return good and 1 <= len(item) <= 12 and not item[0].isdigit()


def wrong_item(line):
    """The item at which a line cannot stand, None if it is a line of the tables."""
    items = line.split(" ")
    if items[0] not in FORMS:
        return 0
    at = 1
    for place in FORMS[items[0]].split():
        if place in ("word", "few"):
            most = 200 if place == "word" else 6
            for place_at in range(at, max(len(items), at + 1)):
                if place_at >= min(len(items), at + most) or not is_number(items[place_at], 0, 5):
                    return place_at
            return None
        if place in ("table", "saying"):
            return wrong_in_text(place, items, at)
        if at >= len(items):
            return at
        good = is_name(items[at]) if place == "name" else is_number(items[at], *BOUNDS[place])
        if not good:
            return at
        at += 1
    return at if at < len(items) else None


def wrong_in_text(place, items, first):
    """The item at which the text of a table or of a saying cannot stand, counted in the whole line."""
    rest = ["no item" if "\n" in item else item for item in items[first:]]
    if place == "saying":
        wrong = test_saying_texts.first_wrong(" ".join(rest).replace("no item", "noitem"))
        return None if wrong is None else first + wrong[1]
    lines = [[]]
    for item in rest:
        if item == "/":
            lines.append([])
        else:
            lines[-1].append(item.replace(" ", ""))
    wrong = test_table_texts.first_wrong("\n".join(" ".join(line) for line in lines))
    if wrong is None:
        return None
    at = first + wrong[1]
    for line in lines[:wrong[0]]:
        at += len(line) + 1
    return min(at, len(items))


class DeskByHand:
    """What a desk answers, from snapshots of all that is kept."""

    def __init__(self):
        self.kept = {}
        self.past = []
        self.future = []

    def log(self):
        return [line for line, _ in self.past]

    def tell(self, line):
        """The answer, for a line that raises nothing."""
        word, *items = line.split(" ")
        if word == "undo":
            told_line, before = self.past.pop()
            self.future.append(told_line)
            self.kept = before
            return told_line
        if word == "again":
            told_line, rest = self.future[-1], self.future[:-1]
            answer = self.tell(told_line)
            self.future = rest
            return answer
        if word in KEPT:
            before = dict(self.kept)
            answer = self.keep(word, items)
            self.past.append((line, before))
            self.future = []
            return answer
        return self.answer(word, items) or "-"

    def keep(self, word, items):
        if word == "drop":
            del self.kept[items[0]]
            return items[0]
        rows = [self.kept[item] for item in items[1:3] if word not in ("table", "saying") and item in self.kept]
        if word == "table":
            row = Table.read("\n".join(" ".join(items[1:]).split(" / ")))
        elif word == "saying":
            row = row_of(saying_read(" ".join(items[2:])), int(items[1]))
        elif word == "renamed":
            row = Renamed(rows[0], [int(item) for item in items[2:]])
        elif word == "sped":
            row = Sped(rows[0], int(items[2]))
        else:
            row = {"oneway": OneWay, "twoways": TwoWays, "not": Not, "both": Both, "either": Either}[word](*rows)
        self.kept[items[0]] = row
        return f"ways {row.ways} letters {row.letters}"

    def answer(self, word, items):
        if word == "log":
            return " / ".join(self.log())
        if word == "names":
            return " ".join(sorted(self.kept))
        row = self.kept[items[0]]
        if word == "text":
            return " / ".join(str(row).split("\n"))
        if word == "due":
            many = int(items[1])
            return f"0 {many - 1}" if row.ways == 2 else f"{many - 1} {2 * many - 1}"
        if word == "words":
            return " / ".join(" ".join(map(str, told)) for told in words_over(row.letters, int(items[1])) if len(told) == int(items[1]) and told_of(row, told))
        if word == "unlike":
            other = self.kept[items[1]]
            found = [told for told in words_over(row.letters, int(items[2])) if told_of(row, told) != told_of(other, told)]
            return " ".join(map(str, found[0])) if found else "-"
        letters = [int(item) for item in items[(1 if word == "told" else 2):]]
        if word == "told":
            return "yes" if told_of(row, letters) else "no"
        lines = strip_of(row, letters, int(items[1]))
        if word == "said":
            return "yes" if row.says(lines[-1][0 if row.ways == 2 else -1]) else "no"
        return " / ".join("".join("#" if row.says(worth) else "." for worth in line) for line in lines)


def table_line(name, table):
    """The line that makes a table."""
    return f"table {name} " + str(table).replace("\n", " / ")


def line_by_chance(chance, desk, kept, number):
    """A line that raises nothing on a desk by hand, on which all has two letters; with a new name of this number."""
    name = "abcxyz"[number % 6] + str(number)
    names = sorted(desk.kept)
    small = [item for item in names if weight(desk.kept[item]) <= 6]
    if kept:
        two, one = ([item for item in small if desk.kept[item].ways == ways] for ways in (2, 1))
        unsped = [item for item in two if "Sped" not in kinds_in(desk.kept[item])]
        made = [f"saying {name} 2 {text_by_hand(saying_by_chance(chance, 2, 3))}", table_line(name, table_by_chance(two_letters(chance)))]
        if two:
            made.append(f"oneway {name} {chance.choice(two)}")
        if one:
            made.append(f"twoways {name} {chance.choice(one)}")
        if small:
            made += [f"not {name} {chance.choice(small)}", f"renamed {name} {chance.choice(small)} {chance.randrange(2)} {chance.randrange(2)}"]
        if unsped:
            made.append(f"sped {name} {chance.choice(unsped)} {chance.randint(2, 4)}")
        for group in (two, one):
            pairs = [(first, second) for first in group for second in group if weight(desk.kept[first]) + weight(desk.kept[second]) <= 7]
            if pairs:
                made.append(f"{chance.choice(('both', 'either'))} {name} " + " ".join(chance.choice(pairs)))
        if names:
            made.append(f"drop {chance.choice(names)}")
        return chance.choice(made)
    asked = ["names", "log"]
    if names:
        one, word = chance.choice(names), " ".join(str(chance.randrange(2)) for _ in range(chance.randint(1, 9)))
        asked += [f"told {one} {word}", f"said {one} {chance.randint(0, 12)} {word}", f"due {one} {chance.randint(1, 200)}", f"words {one} {chance.randint(1, 4)}",
                  f"unlike {one} {chance.choice(names)} {chance.randint(1, 4)}", f"picture {one} {chance.randint(0, 9)} {word}"]
        asked += [f"text {item}" for item in names if isinstance(desk.kept[item], Table)]
    return chance.choice(asked)


def two_letters(chance):
    """The seed of a table of two letters."""
    while True:
        seed = chance.randrange(1000)
        if table_by_chance(seed).letters == 2:
            return seed


def weight(row):
    """Of how many rows a row is made, itself included."""
    return 1 + sum(weight(getattr(row, part)) for part in ("row", "one", "other") if hasattr(row, part))


def kinds_in(row):
    """The names of the classes of all rows of which a row is made."""
    found = [row.__class__.__name__]
    for part in ("row", "one", "other"):
        if hasattr(row, part):
            found += kinds_in(getattr(row, part))
    return found
