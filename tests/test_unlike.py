"""backwardrow.unlike: the least word at which rows part, against strips of the test itself; right and wrong papers."""

import itertools
import unittest

from backwardrow.eaters import Eater
from backwardrow.fed import Fed
from backwardrow.folds import TwoWays
from backwardrow.joined import Both, Either, Not, Renamed
from backwardrow.mirrors import Mirror
from backwardrow.papers import Denial, Paper
from backwardrow.slants import OneWay
from backwardrow.tables import Table
from backwardrow.unlike import Parted, Same, shows_unlike, unlike
from helpers import HUGE, NO_INTEGERS, NO_LISTS, ODD, error_of
from made import evens_parts, table_by_chance, taken_by_hand, told_by_hand, told_of, words_over

SOME = Table(2, 2, 2, [((left, 0, 1), 1) for left in (None, 0, 1)], [1])
FIRST = Table(2, 2, 2, [], [1])
BAD_ROWS = (*NO_INTEGERS, 0, 1, "row", Table, unlike, {"ways": 1, "letters": 2})
BAD_MOST = (0, 13, -1, HUGE, -HUGE, *NO_INTEGERS)


def pairs(many):
    """Pairs of tables by chance over as many letters, of one way and of two."""
    tables = [table_by_chance(seed) for seed in range(40)]
    found = [(one, other) for one, other in itertools.product(tables, repeat=2) if one.letters == other.letters]
    return found[::len(found) // many]


def parting(one, other, most):
    """All words of at most so many letters at which two tables part, in their order."""
    return [word for word in words_over(one.letters, most) if told_by_hand(one, word) != told_by_hand(other, word)]


class Least(unittest.TestCase):
    def test_against_the_hand(self):
        lengths, ways = set(), set()
        for one, other in pairs(250):
            for most in (1, 2, 4):
                words = parting(one, other, most)
                got = unlike(one, other, most)
                if words:
                    self.assertIsInstance(got, Parted)
                    self.assertEqual(got.letters, words[0])
                    self.assertIsInstance(got.letters, tuple)
                    self.assertIs(got == Parted(list(words[0])), True)
                    lengths.add(len(words[0]))
                    ways.add((one.ways, other.ways))
                else:
                    self.assertIsInstance(got, Same)
                    self.assertEqual(got.most, most)
                    self.assertIs(got == Same(most), True)
                self.assertIs(unlike(most=most, other=other, one=one) == got, True)
                self.assertIs(unlike(other, one, most) == got, True)
        self.assertTrue({1, 2, 3} <= lengths)
        self.assertEqual(ways, {(1, 1), (1, 2), (2, 1), (2, 2)})

    def test_rows_that_part_late(self):
        # Each pair parts at words of so many letters first.
        for many in range(1, 7):
            stops = Table(2, 2, 8, [((None, 0, None), 0)], [])
            stays = Fed(Eater(2, 12, 0, {(state, letter, ()): (min(state + 1, 11), ()) for state in range(12) for letter in (0, 1)}, [many]))
            self.assertIs(unlike(stops, stays, 7) == Parted((0,) * many), True)
            ends = Fed(Eater(2, 12, 0, {(state, letter, ()): (state + 1 if letter == 1 else 0, ()) for state in range(11) for letter in (0, 1)}, [many]))
            self.assertIs(unlike(ends, stops, 7) == Parted((1,) * many), True)
            self.assertIs(unlike(ends, stops, many) == Parted((1,) * many), True)
            if many > 1:
                self.assertIs(unlike(ends, stops, many - 1) == Same(many - 1), True)
                self.assertIs(bool(unlike(ends, stops, many - 1)), False)

    def test_shorter_words_come_first(self):
        # Words with a 1 in front part at any length, words of 0 at three letters.
        one = Fed(Eater(2, 4, 0, {(0, 1, ()): (3, ()), (0, 0, ()): (1, ()), (1, 0, ()): (2, ()), (2, 0, ()): (3, ())}, [3]))
        none = Table(2, 2, 2, [], [])
        self.assertEqual(unlike(one, none, 4).letters, (1,))
        one = Fed(Eater(2, 4, 0, {(0, 0, ()): (1, ()), (0, 1, ()): (2, ()), (1, 0, ()): (2, ()), (2, 1, ()): (3, ()), (2, 0, ()): (1, ())}, [3]))
        self.assertEqual(unlike(one, none, 4).letters, (1, 1))

    def test_rows_of_all_kinds(self):
        evens, mirror = Fed(Eater(*evens_parts())), Mirror(2)
        rows = [evens, mirror, SOME, FIRST, OneWay(evens), TwoWays(OneWay(mirror)), Not(mirror), Both(mirror, Not(evens)), Either(SOME, evens),
                Renamed(mirror, [1, 0]), Renamed(evens, [1, 0]), OneWay(Not(Not(mirror))), Table(1, 2, 3, {(0, 1): 2}, [2])]
        for one, other in itertools.product(rows, repeat=2):
            words = [word for word in words_over(2, 5) if told_of(one, word) != told_of(other, word)]
            got = unlike(one, other, 5)
            self.assertIs(got == (Parted(words[0]) if words else Same(5)), True, (rows.index(one), rows.index(other)))
            for word in words_over(2, 3):
                self.assertIs(shows_unlike(one, other, 5, Parted(word)), word in words)
            self.assertIs(shows_unlike(one, other, 5, Same(5)), not words)
        self.assertEqual(unlike(evens, Table(2, 2, 2, [], []), 5).letters, next(word for word in words_over(2, 5) if taken_by_hand(evens_parts(), word)))

    def test_rows_that_are_the_same(self):
        for seed in range(20):
            table = table_by_chance(seed)
            made = OneWay(table) if table.ways == 2 else TwoWays(table)
            for other in (table, made, Not(Not(made)), Both(table, table)):
                got = unlike(table, other, 4)
                self.assertIs(got == Same(4), True)
                self.assertIs(bool(got), False)
            got = unlike(made, Not(table), 4)
            self.assertIs(got == Parted((0,)), True)
            self.assertIs(bool(got), True)

    def test_one_letter_and_twelve(self):
        one, other = Table(2, 1, 1, [], [0]), Table(1, 1, 1, [], [0])
        self.assertIs(unlike(one, other, 12) == Same(12), True)
        turns = Fed(Eater(1, 12, 0, {(state, 0, ()): ((state + 1) % 12, ()) for state in range(12)}, [0]))
        never = Table(1, 1, 1, [], [])
        self.assertIs(unlike(turns, never, 11) == Same(11), True)
        self.assertIs(unlike(turns, never, 12) == Parted([0] * 12), True)
        self.assertIs(unlike(OneWay(turns), one, 12) == Parted([0]), True)
        self.assertIs(unlike(SOME, Not(Not(SOME)), 12) == Same(12), True)
        self.assertIs(unlike(OneWay(SOME), TwoWays(OneWay(SOME)), 8) == Same(8), True)

    def test_asked_again(self):
        for one, other in pairs(40):
            got = unlike(one, other, 4)
            for _ in range(2):
                self.assertIs(unlike(Table.read(str(one)), Table.read(str(other)), 4) == got, True)
                self.assertEqual(unlike(one, other, 4).parts, got.parts)


class Shows(unittest.TestCase):
    def test_any_word_at_which_they_part(self):
        for one, other in pairs(80):
            words = parting(one, other, 4)
            for word in words_over(one.letters, 4):
                for most in (1, 3, 4):
                    wanted = word in words and len(word) <= most
                    self.assertIs(shows_unlike(one, other, most, Parted(word)), wanted, (word, most))
                self.assertIs(shows_unlike(value=Parted(letters=list(word)), most=4, other=other, one=one), word in words)

    def test_same(self):
        for one, other in pairs(80):
            for most in (1, 2, 4):
                words = parting(one, other, most)
                for told in (0, 1, 2, 3, 4, 5, 12, 13, -1, HUGE, *NO_INTEGERS, ODD, float(most), [most], str(most)):
                    wanted = not words and isinstance(told, int) and not isinstance(told, bool) and told == most
                    self.assertIs(shows_unlike(one, other, most, Same(told)), wanted, told)

    def test_words_that_are_none(self):
        one, other = SOME, Not(SOME)
        for word in ((0,), (1, 0), (0, 0, 1)):
            self.assertIs(shows_unlike(one, other, 3, Parted(word)), True)
        for value in (*NO_LISTS, [], (), {}, {0: 0}, range(1), [2], [-1], [True], [False], [0, True], [None], ["0"], [[0]], [(0,)], [1.0], [HUGE],
                      [ODD], [0] * 4, [0] * 12, [0] * 13, [0] * 201, 0, HUGE, Parted([0]), Same(3), [0, 2], "0", "0 1"):
            self.assertIs(shows_unlike(one, other, 3, Parted(value)), False, value)
        self.assertIs(shows_unlike(one, other, 12, Parted([0] * 12)), True)
        self.assertIs(shows_unlike(one, other, 12, Parted([0] * 13)), False)

    def test_other_values(self):
        one, other = SOME, Not(SOME)
        for value in (*NO_INTEGERS, 0, 3, HUGE, "parted", (0,), [0, 1], Paper("parted", (0,)), Denial("parted", (0,)), Parted, Same, one, ODD,
                      Denial("same", 3), Paper("same", 3), Other((0,))):
            self.assertIs(shows_unlike(one, other, 3, value), False)
            self.assertIs(shows_unlike(one, one, 3, value), False)
        self.assertIs(shows_unlike(one, one, 3, Same(3)), True)
        self.assertIs(shows_unlike(one, other, 3, Same(3)), False)

    def test_what_is_told_is_right(self):
        for one, other in pairs(60):
            for most in (1, 3, 4):
                self.assertIs(shows_unlike(one, other, most, unlike(one, other, most)), True)


class Other(Paper):
    """A class of papers that has all that a Parted has."""

    def __init__(self, letters):
        Paper.__init__(self, "parted", letters)
        self.letters = self.parts[0]


class Papers(unittest.TestCase):
    def test_any_parts(self):
        for part, kept in (((0, 1), (0, 1)), ([0, [1, (2, [3])]], (0, (1, (2, (3,))))), (None, None), ("x", "x"), (ODD, ODD), (True, True), (7, 7)):
            parted, same = Parted(part), Same(part)
            self.assertEqual((parted.word, parted.letters, parted.parts), ("parted", kept, (kept,)))
            self.assertEqual((same.word, same.most, same.parts), ("same", kept, (kept,)))
            self.assertIs(bool(parted), True)
            self.assertIs(bool(same), False)
            self.assertIs(Parted(letters=part) == parted, True)
            self.assertIs(Same(most=part) == same, True)
            self.assertIs(parted == same, False)
            self.assertIs(same == parted, False)
            self.assertIs(parted == Paper("parted", part), False)
            self.assertIs(same == Denial("same", part), False)
        self.assertNotIsInstance(Parted(0), Denial)
        self.assertIsInstance(Parted(0), Paper)
        self.assertIsInstance(Same(0), Denial)

    def test_equal(self):
        self.assertIs(Parted([0, 1]) == Parted((0, 1)), True)
        self.assertIs(Parted([0, 1]) == Parted((0, 0)), False)
        self.assertIs(Parted([0]) != Parted((0, 0)), True)
        self.assertIs(Same(3) == Same(4), False)
        self.assertIs(Same(3) != Same(3), False)

    def test_the_list_may_be_changed(self):
        word = [0, 1]
        paper = Parted(word)
        word.append(1)
        self.assertEqual(paper.letters, (0, 1))
        self.assertEqual(paper.parts, ((0, 1),))


class Errors(unittest.TestCase):
    def check(self, one, other, most, wanted):
        self.assertEqual(error_of(unlike, one, other, most), wanted)
        for value in (None, Same(3), Parted([0]), ODD):
            self.assertEqual(error_of(shows_unlike, one, other, most, value), wanted)

    def test_alone_and_together_in_order(self):
        three = Table(2, 3, 3, [], [])
        for row in BAD_ROWS:
            for most in (3, 0, None):
                self.check(row, SOME, most, ("BadRow", "one"))
                self.check(row, row, most, ("BadRow", "one"))
                self.check(SOME, row, most, ("BadRow", "other"))
                self.check(row, three, most, ("BadRow", "one"))
        for most in BAD_MOST:
            for one, other in ((SOME, FIRST), (SOME, three), (three, three), (OneWay(SOME), three)):
                self.check(one, other, most, ("BadNumber", "most"))
        for most in (1, 3, 8, 12):
            self.check(SOME, three, most, ("Misfit", "letters"))
            self.check(three, OneWay(SOME), most, ("Misfit", "letters"))

    def test_too_many_words(self):
        for letters, most in ((3, 7), (4, 6), (5, 5), (6, 4)):
            row, other = Table(2, letters, 6, [], []), Table(2, letters, 6, [], [1])
            self.assertEqual(unlike(row, other, most).letters, (1,))
            self.assertIs(shows_unlike(row, other, most, Parted([1])), True)
            for more in range(most + 1, 13):
                self.check(row, other, more, ("TooMany", "words", 4096))
                self.check(row, row, more, ("TooMany", "words", 4096))
        for letters in (1, 2):
            row, other = Table(2, letters, 6, [], []), Table(1, letters, 6, [], [0])
            self.assertEqual(unlike(row, other, 12).letters, (0,))


if __name__ == "__main__":
    unittest.main()
