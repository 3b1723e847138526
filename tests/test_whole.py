"""The whole program: rows made of rows of all kinds against own reckoning, and the general rules for each function."""

import copy
import itertools
import random
import unittest

from backwardrow.check_listed import shows_listed
from backwardrow.checks import is_integer, is_letter, is_within, is_word
from backwardrow.desk import Desk
from backwardrow.eaters import Eater, beginnings, eaten, side_by_side, takes
from backwardrow.fed import Fed
from backwardrow.flashes import doubles, echoes, flashes, line_at, meeting, squares
from backwardrow.folds import TwoWays, fold, unfold
from backwardrow.joined import Both, Either, Not, Renamed
from backwardrow.listed import Listed, listed
from backwardrow.mirrors import Mirror
from backwardrow.papers import fixed
from backwardrow.pictures import listing, picture, slanted
from backwardrow.rows import Row
from backwardrow.runs import due_tick, said, seat, strip, told, told_words, worth_at
from backwardrow.saying_texts import saying_read, saying_text
from backwardrow.sayings import is_saying, letters_in, means, words_so
from backwardrow.scripts import played
from backwardrow.signals import Signals
from backwardrow.slants import OneWay, slant, triangle, unslant
from backwardrow.sped import Sped, cut_tick, inner_tick
from backwardrow.spoken import eater_of, row_of
from backwardrow.tables import Table
from backwardrow.unlike import Parted, Same, shows_unlike, unlike
from backwardrow.words import all_words, mirrored, next_word, word_read, word_text
from helpers import HUGE, ODD, error_of
from made import (
    eater_parts_by_chance, evens_parts, only_small, strip_of, table_by_chance, taken_by_hand, told_by_hand, words_over)
from made_sayings import saying_by_chance, so_by_hand
from made_signals import signal_parts_by_chance, strip_of_signals


def with_letters(make, letters, chance):
    """Parts made by chance with as many letters as wanted."""
    while True:
        parts = make(chance.randrange(10 ** 6))
        if parts[0] == letters:
            return parts


def base_by_chance(chance, letters):
    """A row that is made of no other one, and a function that tells by own reckoning what it is told of a word."""
    kind = chance.choice(("two", "one", "fed", "mirror", "signals", "saying"))
    if kind in ("two", "one"):
        ways = 2 if kind == "two" else 1
        table = next(table for table in (table_by_chance(chance.randrange(10 ** 6), ways) for _ in itertools.count()) if table.letters == letters)
        return table, lambda word: told_by_hand(table, word)
    if kind == "fed":
        parts = with_letters(eater_parts_by_chance, letters, chance)
        return Fed(Eater(*parts)), lambda word: taken_by_hand(parts, word)
    if kind == "mirror":
        return Mirror(letters), lambda word: list(word) == list(word)[::-1]
    if kind == "saying":
        saying = saying_by_chance(chance, letters, 2)
        return row_of(saying, letters), lambda word: so_by_hand(saying, word)
    parts = signal_parts_by_chance(chance.randrange(10 ** 6))
    begins = [chance.choice(parts[3]) for _ in range(letters)]
    parts = (*parts[:3], begins, parts[4])
    return Signals(*parts), lambda word: parts[4] in [kind for kind, _ in strip_of_signals(parts, word, len(word) - 1)[-1][0]]


def row_by_chance(chance, letters, levels, sped=True):
    """A row made of rows to so many levels, at most one of them sped, and what it is told of a word."""
    if levels == 0:
        return base_by_chance(chance, letters)
    kind = chance.choice(("not", "both", "either", "renamed", "turned", "turned", "sped", "listed"))
    if kind == "renamed":
        wider = chance.randint(1, 3)
        names = [chance.randrange(wider) for _ in range(letters)]
        row, so = row_by_chance(chance, wider, levels - 1, sped)
        return Renamed(row, names), lambda word: so([names[letter] for letter in word])
    row, so = row_by_chance(chance, letters, levels - 1, sped and kind != "sped")
    if kind == "not":
        return Not(row), lambda word: not so(word)
    if kind == "turned":
        return (OneWay(row) if row.ways == 2 else TwoWays(row)), so
    if kind == "sped":
        return (Sped(row, chance.randint(2, 4)) if row.ways == 2 and sped else row), so
    if kind == "listed":
        return listed_if_it_can_be(row), so
    other, beside = row_by_chance(chance, letters, levels - 1, False)
    if other.ways != row.ways:
        other = OneWay(other) if other.ways == 2 else TwoWays(other)
    if kind == "both":
        return Both(row, other), lambda word: so(word) and beside(word)
    return Either(row, other), lambda word: so(word) or beside(word)


def listed_if_it_can_be(row):
    """The table of a row that callers may list, if there is one."""
    if not isinstance(row, (Table, Not)) or (isinstance(row, Not) and not isinstance(row.row, Table)):
        return row
    try:
        return listed(row, 12).table
    except ValueError:
        return row


class RowsOfRows(unittest.TestCase):
    def test_to_three_levels(self):
        for seed in range(240):
            chance = random.Random(seed)
            letters = 1 + seed % 3
            row, so = row_by_chance(chance, letters, seed % 4)
            self.assertEqual(row.letters, letters)
            words = list(words_over(letters, 3 if letters == 3 else 4))
            words += [[chance.randrange(letters) for _ in range(many)] for many in (6, 9, 14)]
            for word in words:
                wanted = so(word)
                self.assertIs(told(row, word), wanted, (seed, word))
                self.assertIs(said(row, word, due_tick(row, len(word))), wanted)
            for many in (1, 2, 3):
                found = tuple(word for word in itertools.product(range(letters), repeat=many) if so(word))
                self.assertEqual(told_words(row, many), found)
            for line in strip(row, words[-1], 20):
                for worth in line:
                    self.assertTrue(only_small(worth), worth)

    def test_they_go_on_as_strips_do(self):
        for seed in range(60):
            chance = random.Random(seed + 1000)
            row, _ = row_by_chance(chance, 2, 1 + seed % 3)
            for many in (1, 2, 5, 11):
                word = [chance.randrange(2) for _ in range(many)]
                lines = strip_of(row, word, 16)
                self.assertEqual(strip(row, word, 16), tuple(tuple(line) for line in lines))
                self.assertEqual(picture(row, word, 16), tuple("".join("#" if row.says(worth) else "." for worth in line) for line in lines))
                self.assertEqual(flashes(row, word, 16), tuple(tick for tick, line in enumerate(lines) if row.says(line[0])))
                for cell in range(many):
                    self.assertEqual(worth_at(row, word, cell, 7), lines[7][cell])

    def test_held_against_one_another(self):
        for seed in range(40):
            chance = random.Random(seed + 2000)
            (one, so), (other, beside) = row_by_chance(chance, 2, 2), row_by_chance(chance, 2, 2)
            parting = next((word for word in words_over(2, 4) if so(word) != beside(word)), None)
            paper = unlike(one, other, 4)
            self.assertEqual(paper, Same(4) if parting is None else Parted(parting))
            self.assertIs(shows_unlike(one, other, 4, paper), True)
            self.assertIs(shows_unlike(other, one, 4, Parted([0, 1])), so((0, 1)) != beside((0, 1)))

    def test_eight_others_and_two_of_them_sped_by_2(self):
        chance = random.Random(3)
        table = table_by_chance(4, 2)
        row = TwoWays(OneWay(Not(Not(Renamed(Sped(Not(Sped(table, 2)), 2), [0, 0, 0])))))
        again = Sped(Sped(Either(TwoWays(OneWay(table)), Both(table, Not(table))), 2), 2)
        for many in (1, 2, 5, 9, 40):
            word = [chance.randrange(row.letters) for _ in range(many)]
            self.assertIs(told(row, word), not told_by_hand(table, [0] * many))
            word = [chance.randrange(table.letters) for _ in range(many)]
            self.assertIs(told(again, word), told_by_hand(table, word))
            self.assertEqual(len(strip(again, word, 120)), 121)
        self.assertEqual(len(told_words(OneWay(TwoWays(OneWay(TwoWays(OneWay(TwoWays(OneWay(Mirror(2)))))))), 9)), 32)

    def test_equal_only_when_made_alike(self):
        made = []
        for seed in range(50):
            row, _ = row_by_chance(random.Random(seed + 3000), 2, seed % 4)
            again, _ = row_by_chance(random.Random(seed + 3000), 2, seed % 4)
            self.assertIs(row == again, True)
            self.assertIs(row != again, False)
            made.append(row)
        rows = [made[0], Not(made[0]), Not(Not(made[0])), Both(made[0], made[0]), Either(made[0], made[0]), Renamed(made[0], [0, 1]), Renamed(made[0], [1, 0])]
        for one, other in itertools.product(range(len(rows)), repeat=2):
            self.assertIs(rows[one] == rows[other], one == other)
        for row in made:
            for value in (None, 0, "row", [], row.letters, ODD):
                self.assertIs(row == value, False)


SOME = Table(2, 2, 2, {(None, 0, 1): 1, (0, 0, 1): 1, (1, 0, 1): 1}, [1])
LAST = Table(1, 2, 3, {(1, 0): 1, (1, 1): 2, (None, 0): 2}, (2, 1))
EVENS = Eater(*evens_parts())
NO_ROW = (("BadRow",), (None, 1, "row", [], (), ODD, Table, EVENS, ("mirror",)))
NO_WORD = (("BadWord",), (None, 1, "01", [], (), [2], [0, -1], [True], [None], [0] * 201, {0: 1}))
NO_WORD_AT_ALL = (("BadWord",), (None, 1, "01", [], (), [6], [0, -1], [True], [0] * 201))
NO_EATER = (("BadEater",), (None, 1, "eater", [], (), ODD, Eater, SOME, evens_parts()))
NO_SAYING = (("BadSaying",), (None, 1, "mirror", [], (), ODD, ["mirrors"], ("begins", 6), ("not",), SOME))
NO_TABLE = (("BadTable",), (None, 1, "table", [], (), ODD, Table, EVENS, Not(SOME)))


def no_number(least, most):
    """What is no integer within bounds."""
    beyond = [HUGE, most + 1] if most is not None else []
    return (("BadNumber",), (None, True, "1", 1.0, [], [1], ODD, least - 1, -HUGE, *beyond))


# For each function and class that refuses parameters: right ones by name, and what is no right one.
CALLS = (
    (all_words, (("letters", 2, no_number(1, 6)), ("many", 3, no_number(1, 12)))),
    (next_word, (("letters", 2, no_number(1, 6)), ("word", [0, 1], NO_WORD))),
    (mirrored, (("word", [5, 1], NO_WORD_AT_ALL),)),
    (word_text, (("word", [5, 1], NO_WORD_AT_ALL),)),
    (strip, (("row", SOME, NO_ROW), ("word", [0, 1], NO_WORD), ("ticks", 3, no_number(0, 1000)))),
    (worth_at, (("row", SOME, NO_ROW), ("word", [0, 1], NO_WORD), ("cell", 1, no_number(0, 1)), ("tick", 3, no_number(0, 1000)))),
    (seat, (("row", LAST, NO_ROW), ("many", 3, no_number(1, 200)))),
    (due_tick, (("row", LAST, NO_ROW), ("many", 3, no_number(1, 200)))),
    (told, (("row", SOME, NO_ROW), ("word", [0, 1], NO_WORD))),
    (said, (("row", SOME, NO_ROW), ("word", [0, 1], NO_WORD), ("tick", 3, no_number(0, 1000)))),
    (told_words, (("row", SOME, NO_ROW), ("many", 3, no_number(1, 200)))),
    (OneWay, (("row", SOME, NO_ROW),)),
    (slant, (("cell", 0, no_number(0, None)), ("tick", 4, no_number(0, None)))),
    (unslant, (("cell", 0, no_number(0, None)), ("tick", 4, no_number(0, None)))),
    (triangle, (("row", SOME, NO_ROW), ("word", [0, 1], NO_WORD))),
    (TwoWays, (("row", LAST, NO_ROW),)),
    (fold, (("cell", 0, no_number(0, None)), ("tick", 4, no_number(0, None)))),
    (unfold, (("cell", 0, no_number(0, None)), ("tick", 4, no_number(0, None)))),
    (Not, (("row", SOME, NO_ROW),)),
    (Both, (("one", SOME, NO_ROW), ("other", Not(SOME), NO_ROW))),
    (Either, (("one", SOME, NO_ROW), ("other", Not(SOME), NO_ROW))),
    (Renamed, (("row", SOME, NO_ROW), ("letters", [1, 0, 0], (("BadNumber",), (None, 1, "01", [], [2], [-1], [True], [0] * 7, {0: 1}))))),
    (listed, (("row", SOME, NO_ROW), ("most", 4, no_number(1, 12)))),
    (shows_listed, (("row", SOME, NO_ROW), ("value", None, ((), ())))),
    (unlike, (("one", SOME, NO_ROW), ("other", LAST, NO_ROW), ("most", 4, no_number(1, 12)))),
    (shows_unlike, (("one", SOME, NO_ROW), ("other", LAST, NO_ROW), ("most", 4, no_number(1, 12)), ("value", None, ((), ())))),
    (eaten, (("eater", EVENS, NO_EATER), ("word", [0, 1], NO_WORD))),
    (takes, (("eater", EVENS, NO_EATER), ("word", [0, 1], NO_WORD))),
    (beginnings, (("eater", EVENS, NO_EATER), ("word", [0, 1], NO_WORD))),
    (side_by_side, (("one", EVENS, NO_EATER), ("other", EVENS, NO_EATER))),
    (Fed, (("eater", EVENS, NO_EATER),)),
    (Mirror, (("letters", 2, no_number(1, 6)),)),
    (letters_in, (("saying", ["ends", 1], NO_SAYING),)),
    (means, (("saying", ["has", [0, 1]], NO_SAYING), ("word", [0, 5], NO_WORD_AT_ALL))),
    (words_so, (("saying", ["has", [0, 1]], NO_SAYING), ("letters", 2, no_number(1, 6)), ("many", 3, no_number(1, 12)))),
    (saying_text, (("saying", ["both", ["has", [0, 1]], ("mirror",)], NO_SAYING),)),
    (row_of, (("saying", ["both", ["has", [0, 1]], ("mirror",)], NO_SAYING), ("letters", 2, no_number(1, 6)))),
    (eater_of, (("saying", ["then", [0, 1]], NO_SAYING), ("letters", 2, no_number(1, 6)))),
    (Sped, (("row", SOME, NO_ROW), ("by", 3, no_number(2, 4)))),
    (inner_tick, (("many", 3, no_number(1, 200)), ("by", 2, no_number(2, 4)), ("tick", 9, no_number(0, None)))),
    (cut_tick, (("many", 3, no_number(1, 200)), ("by", 2, no_number(2, 4)), ("tick", 9, no_number(0, None)))),
    (flashes, (("row", SOME, NO_ROW), ("word", [0, 1], NO_WORD), ("ticks", 3, no_number(0, 1000)))),
    (line_at, (("kind", [1, 2], (("BadNumber",), (None, 1, [], [0, 2], [2, 1], [1, 6], [1, 1, 1], "11"))), ("cell", 3, no_number(0, 1000)), ("tick", 9, no_number(0, 1000)))),
    (meeting, (("one", [1, 2], (("BadNumber",), (None, 1, [], [0, 2]))), ("place", 3, no_number(0, 1000)), ("other", (0, 1), (("BadNumber",), (None, (1, 6)))), ("spot", 5, no_number(0, 1000)))),
    (picture, (("row", SOME, NO_ROW), ("word", [0, 1], NO_WORD), ("ticks", 3, no_number(0, 1000)))),
    (listing, (("table", SOME, NO_TABLE), ("word", [0, 1], NO_WORD), ("ticks", 3, no_number(0, 1000)))),
    (slanted, (("table", SOME, NO_TABLE), ("word", [0, 1], NO_WORD))),
    (Table, (("ways", 2, (("BadTable",), (0, 3, None, True))), ("letters", 2, (("BadTable",), (0, 7, None, True))), ("worths", 3, (("BadTable",), (1, 13, None, True))),
             ("rules", [([None, 0, 1], 1)], (("BadTable",), (None, 1, [1], [((0, 0), 1)], {(0, None, 1): 1}))), ("yes", [2, 0], (("BadTable",), (None, 1, [3], [0, 0], [True]))))),
    (Eater, (("letters", 2, (("BadEater",), (0, 7, None, True))), ("states", 2, (("BadEater",), (0, 13, None, True))), ("stacks", 1, (("BadEater",), (-1, 3, None, True))),
             ("rules", [[[0, 1, [None]], [1, [["push", 3]]]]], (("BadEater",), (None, 1, [1], [((0, 0, (None,)), (0, ("pop",)))]))), ("yes", [1, 0], (("BadEater",), (None, 1, [2], [0, 0]))))),
    (Signals, (("kinds", [[1, 1], [0, 1]], (("BadSignals",), (None, 1, [], [(0, 2)]))), ("meets", [[[1, 0], [1]]], (("BadSignals",), (None, 1, [([], [])], {}))),
               ("borders", [[], [1]], (("BadSignals",), (None, [[]], [[2], []]))), ("begins", [[1, 0], []], (("BadSignals",), (None, [], [[0, 0]]))), ("flash", 1, (("BadSignals",), (None, 2, True))))),
)


def as_tuples(value):
    """A value with tuples in the place of lists, and dicts as they are."""
    return tuple(as_tuples(part) for part in value) if isinstance(value, (list, tuple)) else value


def as_lists(value):
    return [as_lists(part) for part in value] if isinstance(value, (list, tuple)) else value


class GeneralRules(unittest.TestCase):
    def test_each_parameter_wrong(self):
        for call, parts in CALLS:
            for at, (name, _, (error, wrong)) in enumerate(parts):
                for value in wrong:
                    values = [right for _, right, _ in parts]
                    values[at] = value
                    self.assertEqual(error_of(call, *values), (*error, name), (call, name, value))
                    self.assertEqual(error_of(call, **{part[0]: given for part, given in zip(parts, values)}), (*error, name))

    def test_several_parameters_wrong(self):
        for call, parts in CALLS:
            for first in range(len(parts)):
                name, _, (error, wrong) = parts[first]
                if not wrong:
                    continue
                for turn in range(max(len(part[2][1]) for part in parts)):
                    values = [part[1] if at < first or not part[2][1] else part[2][1][turn % len(part[2][1])] for at, part in enumerate(parts)]
                    self.assertEqual(error_of(call, *values), (*error, name), (call, values))

    def test_lists_and_tuples_for_one_another(self):
        for call, parts in CALLS:
            rights = [part[1] for part in parts]
            wanted = call(*rights)
            for change in (as_tuples, as_lists):
                changed = [change(value) for value in rights]
                kept = copy.deepcopy(changed)
                self.assertTrue(call(*changed) == wanted, call)
                self.assertTrue(call(*changed) == wanted, call)
                for value, before in zip(changed, kept):
                    if isinstance(value, (list, tuple)):
                        self.assertEqual(repr(value), repr(before))
            self.assertTrue(call(**{part[0]: part[1] for part in parts}) == wanted)

    def test_what_is_returned_has_no_lists(self):
        for call, parts in CALLS:
            wanted = call(*[as_lists(part[1]) for part in parts])
            if isinstance(wanted, (list, tuple)):
                self.assertEqual(repr(wanted), repr(fixed(wanted)))
            for held in vars(wanted).values() if hasattr(wanted, "__dict__") else ():
                self.assertNotIsInstance(held, list)

    def test_what_was_passed_may_be_changed_behind_the_call(self):
        for call in (Table, Eater, Signals, Renamed):
            parts = next(parts for found, parts in CALLS if found == call)
            values = [copy.deepcopy(as_lists(part[1])) for part in parts]
            made = call(*values)
            wanted = call(*[part[1] for part in parts])
            for value in values:
                empty_all(value)
            self.assertTrue(made == wanted, call)

    def test_whether_is_true_or_false(self):
        for answer in (
            is_integer(1), is_within(1, 0, 3), is_letter(0, 2), is_word([0], 1), is_saying(("mirror",)), means(("many", 0, 1), [0]), told(SOME, [0]), said(SOME, [0], 1),
            takes(EVENS, [0, 1]), shows_listed(SOME, 3), shows_unlike(SOME, LAST, 3, 3), SOME.says(1), Not(SOME).says(0), Both(SOME, SOME).says((1, 1)), Sped(SOME, 2).says((None, ())),
            squares().says(()), Mirror(2).says(Mirror(2).begin(1)), Fed(EVENS).says(Fed(EVENS).begin(0)), OneWay(SOME).says((0, 1)), TwoWays(LAST).says((1, None)),
            Renamed(SOME, [1]).says(1), Either(SOME, SOME).says((0, 0)), *beginnings(EVENS, [0, 1]), SOME == LAST, SOME == 1, EVENS == EVENS, bool(Same(1)),
        ):
            self.assertIn(repr(answer), ("True", "False"))

    def test_rows_are_rows(self):
        for row in (SOME, OneWay(SOME), TwoWays(LAST), Not(SOME), Both(SOME, SOME), Either(SOME, SOME), Renamed(SOME, [0]), Fed(EVENS), Mirror(1), Sped(SOME, 2), squares(), doubles(),
                    echoes(), row_of(("mirror",), 1), listed(SOME, 12).table):
            self.assertIsInstance(row, Row)
            self.assertIn(row.ways, (1, 2))
            self.assertTrue(1 <= row.letters <= 6)

    def test_reads_refuse_what_is_no_string(self):
        for read in (Table.read, Eater.read, Signals.read, word_read, saying_read, Desk().tell):
            for value in (None, 1, True, [], ["yes"], b"mirror", ODD, HUGE):
                self.assertEqual(error_of(read, value), ("BadText", 0, 0))
        self.assertEqual(error_of(played, "names"), ("BadText", 0, 0))

    def test_papers_are_checked_whatever_they_hold(self):
        for value in (Listed(1, 2), Listed((), None), Listed(((0,), (1,)), SOME), Listed([0, 1], ODD), Parted([0, 9]), Parted(None), Parted([]), Same(None), Same(True), Same("3"), ODD, HUGE):
            self.assertIs(shows_listed(SOME, value), False)
            self.assertIs(shows_unlike(SOME, Not(SOME), 3, value), False)


def empty_all(value):
    """Take all out of a list, and out of those within it."""
    if isinstance(value, list):
        for part in value:
            empty_all(part)
        value.clear()


if __name__ == "__main__":
    unittest.main()
