"""The examples of the document, module by module, in its order."""

import unittest

from backwardrow import (
    check_listed, checks, eaters, fed, folds, joined, listed, mirrors, papers, rows, runs, slants, tables, unlike, words)
from helpers import examples_of, run_example

CHECKS = """
>>> [is_integer(False), is_within(4, None, 4), is_letter(2, 3), is_letter(3, 3), is_letter(True, 3), is_word([0, 2, 2], 3), is_word((0, 3), 3), is_word([], 3), is_word("01", 3)]
[False, True, True, False, False, True, False, False, False]
"""

PAPERS = """
>>> note = Paper("note", [1, (2, [3])])
>>> [note.parts, bool(note), bool(Denial("no")), note == Denial("note", [1, (2, [3])]), fixed([[], {"a": [1]}])]
[((1, (2, (3,))),), True, False, False, ((), {'a': [1]})]
"""

WORDS = """
>>> [all_words(2, 2), all_words(1, 3), next_word(2, [0, 1]), next_word(2, (1, 1)), next_word(1, [0]), mirrored([2, 0, 1]), word_text((2, 0, 1)), word_read("4 4")]
[((0, 0), (0, 1), (1, 0), (1, 1)), ((0, 0, 0),), (1, 0), (0, 0, 0), (0, 0), (1, 0, 2), '2 0 1', (4, 4)]
>>> next_word(2, [0, 2])
raises BadWord('word')
>>> word_read("0 6")
raises BadText(0, 1)
>>> all_words(3, 8)
raises TooMany('words', 4096)
"""

TABLES = """
>>> some = Table(2, 2, 2, [((None, 0, 1), 1), ((1, 0, 1), 1), ((0, 0, 1), 1)], [1])
>>> last = Table(1, 2, 3, {(1, 0): 1, (1, 1): 2, (None, 0): 2}, (2, 1))
>>> [some.rules, last.rules, last.yes, last.worths]
[(((None, 0, 1), 1), ((0, 0, 1), 1), ((1, 0, 1), 1)), (((None, 0), 2), ((1, 0), 1), ((1, 1), 2)), (1, 2), 3]
>>> str(last).split("\\n")
['ways 1 letters 2 worths 3', 'yes 1 2', '- 0 > 2', '1 0 > 1', '1 1 > 2']
>>> [Table.read(str(some)) == some, some.begin(1), some.next(0, 0, 1), some.next(0, 1, None), last.next(1, 1, 9), some.says(1), some.says(0)]
[True, 1, 1, 1, 2, True, False]
>>> Table(2, 2, 2, {(0, 0): 1}, [])
raises BadTable('rules')
>>> Table.read("ways 1 letters 2 worths 3\\nyes 1 1")
raises BadText(1, 2)
"""

RUNS = """
>>> [strip(some, [0, 0, 1], 2), strip(last, (0, 1, 0), 3)]
[((0, 0, 1), (0, 1, 1), (1, 1, 1)), ((0, 1, 0), (2, 1, 1), (2, 1, 2), (2, 1, 2))]
>>> [seat(some, 3), due_tick(some, 3), seat(last, 3), due_tick(last, 3), worth_at(last, [0, 1, 0], 2, 1)]
[0, 2, 2, 5, 1]
>>> [told(some, [0, 0, 1]), told(some, [0, 0, 0]), said(some, [0, 0, 1], 1), told_words(some, 2), told_words(last, 1)]
[True, False, False, ((0, 1), (1, 0), (1, 1)), ((0,), (1,))]
>>> strip(some, [0, 2], 1)
raises BadWord('word')
>>> told_words(some, 13)
raises TooMany('words', 4096)
"""

SLANTS = """
>>> one = OneWay(some)
>>> [one.ways, one.begin(1), one.next(None, (0, 0), 7), one.next((0, 0), (0, 1), None), one.next((1, 0, 0, 0), (1, 1, None, None), None)]
[1, (0, 1), (1, 0, None, None), (0, 1), (1, 1, 1, 0)]
>>> [strip(one, [0, 0, 1], 2)[2], strip(one, [0, 0, 1], 5)[5]]
[((1, None, 0, None), (1, 0, None, None), (0, 1)), ((1, None, None, None), (1, None, None, None), (1, 1, 1, 0))]
>>> [told_words(one, 3) == told_words(some, 3), one == OneWay(some), one.says((1, None, 1, 0)), one.says((0, 1))]
[True, True, False, False]
>>> [slant(0, 2), slant(1, 1), unslant(2, 4), unslant(2, 3), unslant(1, 5), unslant(0, 0)]
[(2, 5), (2, 4), (1, 1), (2, 0), None, None]
>>> triangle(some, [0, 0, 1])
((0, 0, 1), (0, 1), (1,))
>>> OneWay(last)
raises Misfit('ways')
"""

FOLDS = """
>>> late = Table(1, 2, 3, {(0, 1): 2, (1, 1): 2, (2, 0): 1, (2, 1): 2}, [2])
>>> both = TwoWays(late)
>>> [both.letters, both.ways, both.begin(1), both.says((1, 0)), both.says(((), 2)), both.says((0, None))]
[2, 2, (1, None), True, False, False]
>>> strip(both, [0, 1, 1], 2)
(((0, None), (1, None), (1, None)), ((2, 0), (2, None), ((), None)), ((2, 2), ((), 0), ((), None)))
>>> [told(both, word) == told(late, word) for word in ([0, 1, 1], [1, 0, 0], [1], [0, 0, 1, 0])]
[True, True, True, True]
>>> [fold(1, 2), unfold(3, 4), unfold(1, 4), unfold(2, 3)]
[(3, 4), (1, 2, 'own'), (0, 2, 'folded'), None]
>>> TwoWays(both)
raises Misfit('ways')
"""

JOINED = """
>>> some, first = Table(2, 2, 2, [((left, 0, 1), 1) for left in (None, 0, 1)], [1]), Table(2, 2, 2, [], [1])
>>> both = Both(some, Not(first))
>>> [told(some, [0, 0, 1]), told(first, [0, 0, 1]), told(both, [0, 0, 1]), told(both, [1, 0]), told(Either(first, Not(some)), [0, 0])]
[True, False, True, False, True]
>>> [both.begin(1), both.next(None, (0, 0), (1, 1)), both.says((1, 0)), both.ways, both.letters]
[(1, 1), (1, 0), True, 2, 2]
>>> third = Renamed(some, [0, 0, 1])
>>> [third.letters, told(third, [0, 1, 0]), told(third, [1, 2, 1])]
[3, False, True]
>>> Both(some, Table(1, 2, 2, [], [1]))
raises Misfit('ways')
>>> Renamed(some, [0, 2])
raises BadNumber('letters')
"""

LISTED = """
>>> told_so = listed(both, 4)
>>> [told_so.names, told_so.table.worths, told_so.table.yes, told_so.table.next(1, 0, 2), told_so.table.next(0, 0, None)]
[((0, 0), (1, 1), (1, 0)), 3, (2,), 2, 0]
>>> [told(told_so.table, word) for word in ([0], [0, 1], [1, 1])]
[False, True, False]
>>> listed(both, 2)
raises TooMany('worths', 2)
>>> listed(third, 12)
raises Misfit('letters')
"""

CHECK_LISTED = """
>>> flat = Table(2, 2, 3, [((left, 0, right), 2) for left in (None, 0, 1, 2) for right in (1, 2)], [2])
>>> [shows_listed(both, value) for value in (told_so, Listed(told_so.names, flat), Listed(told_so.names[:2], told_so.table), Listed([(1, 1), (0, 0), (1, 0)], flat))]
[True, True, False, False]
"""

UNLIKE = """
>>> [unlike(some, first, 3) == Parted([0, 1]), unlike(some, first, 1) == Same(1), unlike(both, told_so.table, 6) == Same(6), bool(Same(6))]
[True, True, True, False]
>>> [shows_unlike(some, first, 3, value) for value in (Parted((0, 0, 1)), Parted([1]), Same(3), Parted([0, 0, 0, 1]))]
[True, False, False, False]
>>> unlike(some, third, 3)
raises Misfit('letters')
>>> unlike(third, third, 8)
raises TooMany('words', 4096)
"""

EATERS = """
>>> rules = [((0, 0, [None]), (0, [("push", 0)])), ((0, 0, [0]), (0, [("push", 1)])), ((0, 0, [1]), (0, [("push", 1)]))]
>>> rules = rules + [((0, 1, [0]), (2, ["pop"])), ((0, 1, [1]), (1, ["pop"])), ((1, 1, [0]), (2, ["pop"])), ((1, 1, [1]), (1, ["pop"]))]
>>> evens = Eater(2, 3, 1, rules, [2])
>>> [eaten(evens, [0, 0, 1]), eaten(evens, [0, 0, 1, 1]), eaten(evens, [1]), takes(evens, [0, 0, 1, 1]), beginnings(evens, (0, 1, 0))]
[(1, ((0,),)), (2, ((),)), None, True, (False, True, False)]
>>> [str(evens).split("\\n")[:4], Eater.read(str(evens)) == evens, evens.rules[0], evens.yes]
[['eater 2 3 1', 'yes 2', 'rule 0 0 - 0 0', 'rule 0 0 0 0 1'], True, ((0, 0, (None,)), (0, (('push', 0),))), (2,)]
>>> thirds = Eater(2, 3, 0, {(state, letter, ()): ([1, 2, 0][state], ()) for state in (0, 1, 2) for letter in (0, 1)}, [0])
>>> both = side_by_side(evens, thirds)
>>> [both.states, both.stacks, both.yes, takes(both, [0, 1]), takes(both, [0, 0, 0, 1, 1, 1])]
[9, 1, (6,), False, True]
>>> Eater(2, 1, 1, [((0, 0, [None]), (0, ["pop"]))], [])
raises BadEater('rules')
>>> Eater.read("eater 2 1 0\\nyes\\nrule 0 1 0\\nrule 0 0 0")
raises BadText(3, 2)
"""

FED = """
>>> row = Fed(evens)
>>> [row.letters, row.ways, told(row, [0, 0, 1, 1]), told(row, [0, 0, 1]), told_words(row, 4)]
[2, 2, True, False, ((0, 0, 1, 1),)]
>>> [said(row, [0, 1, 0, 1], tick) for tick in (0, 1, 2, 3)]
[False, True, False, False]
"""

MIRRORS = """
>>> mirror = Mirror(2)
>>> [mirror.letters, mirror.ways, told(mirror, [0, 1, 0]), told(mirror, [0, 1, 1]), told(mirror, [1]), mirror == Mirror(letters=2)]
[2, 2, True, False, True, True]
>>> [said(mirror, [0, 1, 0, 0, 1, 0], tick) for tick in range(6)]
[True, False, True, False, False, True]
>>> Mirror(7)
raises BadNumber('letters')
"""

SECTIONS = (
    ("checks", checks, CHECKS), ("papers", papers, PAPERS), ("words", words, WORDS), ("rows", rows, None),
    ("tables", tables, TABLES), ("runs", runs, RUNS), ("slants", slants, SLANTS), ("folds", folds, FOLDS),
    ("joined", joined, JOINED), ("listed", listed, LISTED), ("check_listed", check_listed, CHECK_LISTED),
    ("unlike", unlike, UNLIKE), ("eaters", eaters, EATERS), ("fed", fed, FED), ("mirrors", mirrors, MIRRORS),
)


class Examples(unittest.TestCase):
    def test_examples(self):
        names = {}
        for title, module, text in SECTIONS:
            names.update({name: value for name, value in vars(module).items() if not name.startswith("__")})
            if text is None:
                continue
            examples = examples_of(text)
            self.assertTrue(examples)
            for source, expected in examples:
                with self.subTest(section=title, source=source):
                    self.assertIsNone(run_example(source, expected, names))


if __name__ == "__main__":
    unittest.main()
