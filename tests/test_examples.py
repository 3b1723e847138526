"""The examples of the document, module by module, in its order."""

import unittest

from backwardrow import (
    check_listed, checks, desk, eaters, errors, fed, flashes, folds, joined, listed, mirrors, papers, pictures, rows, runs, saying_texts, sayings, scripts, signals,
    slants, sped, spoken, tables, unlike, words)
from helpers import examples_of, run_example

CHECKS = """
>>> [is_integer(False), is_within(4, None, 4), is_letter(2, 3), is_letter(3, 3), is_letter(True, 3), is_word([0, 2, 2], 3), is_word((0, 3), 3), is_word([], 3), is_word("01", 3)]
[False, True, True, False, False, True, False, False, False]
"""

PAPERS = """
>>> note = Paper("note", [1, (2, [3])])
>>> [note.parts, bool(note), bool(Denial("no")), note == Denial("note", [1, (2, [3])]), fixed([[], {"a": [1]}])]
[((1, (2, (3,))),), True, False, False, ((), {'a': [1]})]
"""

WORDS = """
>>> [all_words(2, 2), all_words(1, 3), next_word(2, [0, 1]), next_word(2, (1, 1)), next_word(1, [0]), mirrored([2, 0, 1]), word_text((2, 0, 1)), word_read("4 4")]
[((0, 0), (0, 1), (1, 0), (1, 1)), ((0, 0, 0),), (1, 0), (0, 0, 0), (0, 0), (1, 0, 2), '2 0 1', (4, 4)]
>>> next_word(2, [0, 2])
raises BadWord('word')
>>> word_read("0 6")
raises BadText(0, 1)
>>> all_words(3, 8)
raises TooMany('words', 4096)
"""

TABLES = """
>>> some = Table(2, 2, 2, [((None, 0, 1), 1), ((1, 0, 1), 1), ((0, 0, 1), 1)], [1])
>>> last = Table(1, 2, 3, {(1, 0): 1, (1, 1): 2, (None, 0): 2}, (2, 1))
>>> [some.rules, last.rules, last.yes, last.worths]
[(((None, 0, 1), 1), ((0, 0, 1), 1), ((1, 0, 1), 1)), (((None, 0), 2), ((1, 0), 1), ((1, 1), 2)), (1, 2), 3]
>>> str(last).split("\\n")
['ways 1 letters 2 worths 3', 'yes 1 2', '- 0 > 2', '1 0 > 1', '1 1 > 2']
>>> [Table.read(str(some)) == some, some.begin(1), some.next(0, 0, 1), some.next(0, 1, None), last.next(1, 1, 9), some.says(1), some.says(0)]
[True, 1, 1, 1, 2, True, False]
>>> Table(2, 2, 2, {(0, 0): 1}, [])
raises BadTable('rules')
>>> Table.read("ways 1 letters 2 worths 3\\nyes 1 1")
raises BadText(1, 2)
"""

RUNS = """
>>> [strip(some, [0, 0, 1], 2), strip(last, (0, 1, 0), 3)]
[((0, 0, 1), (0, 1, 1), (1, 1, 1)), ((0, 1, 0), (2, 1, 1), (2, 1, 2), (2, 1, 2))]
>>> [seat(some, 3), due_tick(some, 3), seat(last, 3), due_tick(last, 3), worth_at(last, [0, 1, 0], 2, 1)]
[0, 2, 2, 5, 1]
>>> [told(some, [0, 0, 1]), told(some, [0, 0, 0]), said(some, [0, 0, 1], 1), told_words(some, 2), told_words(last, 1)]
[True, False, False, ((0, 1), (1, 0), (1, 1)), ((0,), (1,))]
>>> strip(some, [0, 2], 1)
raises BadWord('word')
>>> told_words(some, 13)
raises TooMany('words', 4096)
"""

SLANTS = """
>>> one = OneWay(some)
>>> [one.ways, one.begin(1), one.next(None, (0, 0), 7), one.next((0, 0), (0, 1), None), one.next((1, 0, 0, 0), (1, 1, None, None), None)]
[1, (0, 1), (1, 0, None, None), (0, 1), (1, 1, 1, 0)]
>>> [strip(one, [0, 0, 1], 2)[2], strip(one, [0, 0, 1], 5)[5]]
[((1, None, 0, None), (1, 0, None, None), (0, 1)), ((1, None, None, None), (1, None, None, None), (1, 1, 1, 0))]
>>> [told_words(one, 3) == told_words(some, 3), one == OneWay(some), one.says((1, None, 1, 0)), one.says((0, 1))]
[True, True, False, False]
>>> [slant(0, 2), slant(1, 1), unslant(2, 4), unslant(2, 3), unslant(1, 5), unslant(0, 0)]
[(2, 5), (2, 4), (1, 1), (2, 0), None, None]
>>> triangle(some, [0, 0, 1])
((0, 0, 1), (0, 1), (1,))
>>> OneWay(last)
raises Misfit('ways')
"""

FOLDS = """
>>> late = Table(1, 2, 3, {(0, 1): 2, (1, 1): 2, (2, 0): 1, (2, 1): 2}, [2])
>>> both = TwoWays(late)
>>> [both.letters, both.ways, both.begin(1), both.says((1, 0)), both.says(((), 2)), both.says((0, None))]
[2, 2, (1, None), True, False, False]
>>> strip(both, [0, 1, 1], 2)
(((0, None), (1, None), (1, None)), ((2, 0), (2, None), ((), None)), ((2, 2), ((), 0), ((), None)))
>>> [told(both, word) == told(late, word) for word in ([0, 1, 1], [1, 0, 0], [1], [0, 0, 1, 0])]
[True, True, True, True]
>>> [fold(1, 2), unfold(3, 4), unfold(1, 4), unfold(2, 3)]
[(3, 4), (1, 2, 'own'), (0, 2, 'folded'), None]
>>> TwoWays(both)
raises Misfit('ways')
"""

JOINED = """
>>> some, first = Table(2, 2, 2, [((left, 0, 1), 1) for left in (None, 0, 1)], [1]), Table(2, 2, 2, [], [1])
>>> both = Both(some, Not(first))
>>> [told(some, [0, 0, 1]), told(first, [0, 0, 1]), told(both, [0, 0, 1]), told(both, [1, 0]), told(Either(first, Not(some)), [0, 0])]
[True, False, True, False, True]
>>> [both.begin(1), both.next(None, (0, 0), (1, 1)), both.says((1, 0)), both.ways, both.letters]
[(1, 1), (1, 0), True, 2, 2]
>>> third = Renamed(some, [0, 0, 1])
>>> [third.letters, told(third, [0, 1, 0]), told(third, [1, 2, 1])]
[3, False, True]
>>> Both(some, Table(1, 2, 2, [], [1]))
raises Misfit('ways')
>>> Renamed(some, [0, 2])
raises BadNumber('letters')
"""

LISTED = """
>>> told_so = listed(both, 4)
>>> [told_so.names, told_so.table.worths, told_so.table.yes, told_so.table.next(1, 0, 2), told_so.table.next(0, 0, None)]
[((0, 0), (1, 1), (1, 0)), 3, (2,), 2, 0]
>>> [told(told_so.table, word) for word in ([0], [0, 1], [1, 1])]
[False, True, False]
>>> listed(both, 2)
raises TooMany('worths', 2)
>>> listed(third, 12)
raises Misfit('letters')
"""

CHECK_LISTED = """
>>> flat = Table(2, 2, 3, [((left, 0, right), 2) for left in (None, 0, 1, 2) for right in (1, 2)], [2])
>>> [shows_listed(both, value) for value in (told_so, Listed(told_so.names, flat), Listed(told_so.names[:2], told_so.table), Listed([(1, 1), (0, 0), (1, 0)], flat))]
[True, True, False, False]
"""

UNLIKE = """
>>> [unlike(some, first, 3) == Parted([0, 1]), unlike(some, first, 1) == Same(1), unlike(both, told_so.table, 6) == Same(6), bool(Same(6))]
[True, True, True, False]
>>> [shows_unlike(some, first, 3, value) for value in (Parted((0, 0, 1)), Parted([1]), Same(3), Parted([0, 0, 0, 1]))]
[True, False, False, False]
>>> unlike(some, third, 3)
raises Misfit('letters')
>>> unlike(third, third, 8)
raises TooMany('words', 4096)
"""

EATERS = """
>>> rules = [((0, 0, [None]), (0, [("push", 0)])), ((0, 0, [0]), (0, [("push", 1)])), ((0, 0, [1]), (0, [("push", 1)]))]
>>> rules = rules + [((0, 1, [0]), (2, ["pop"])), ((0, 1, [1]), (1, ["pop"])), ((1, 1, [0]), (2, ["pop"])), ((1, 1, [1]), (1, ["pop"]))]
>>> evens = Eater(2, 3, 1, rules, [2])
>>> [eaten(evens, [0, 0, 1]), eaten(evens, [0, 0, 1, 1]), eaten(evens, [1]), takes(evens, [0, 0, 1, 1]), beginnings(evens, (0, 1, 0))]
[(1, ((0,),)), (2, ((),)), None, True, (False, True, False)]
>>> [str(evens).split("\\n")[:4], Eater.read(str(evens)) == evens, evens.rules[0], evens.yes]
[['eater 2 3 1', 'yes 2', 'rule 0 0 - 0 0', 'rule 0 0 0 0 1'], True, ((0, 0, (None,)), (0, (('push', 0),))), (2,)]
>>> thirds = Eater(2, 3, 0, {(state, letter, ()): ([1, 2, 0][state], ()) for state in (0, 1, 2) for letter in (0, 1)}, [0])
>>> both = side_by_side(evens, thirds)
>>> [both.states, both.stacks, both.yes, takes(both, [0, 1]), takes(both, [0, 0, 0, 1, 1, 1])]
[9, 1, (6,), False, True]
>>> Eater(2, 1, 1, [((0, 0, [None]), (0, ["pop"]))], [])
raises BadEater('rules')
>>> Eater.read("eater 2 1 0\\nyes\\nrule 0 1 0\\nrule 0 0 0")
raises BadText(3, 2)
"""

FED = """
>>> row = Fed(evens)
>>> [row.letters, row.ways, told(row, [0, 0, 1, 1]), told(row, [0, 0, 1]), told_words(row, 4)]
[2, 2, True, False, ((0, 0, 1, 1),)]
>>> [said(row, [0, 1, 0, 1], tick) for tick in (0, 1, 2, 3)]
[False, True, False, False]
"""

MIRRORS = """
>>> mirror = Mirror(2)
>>> [mirror.letters, mirror.ways, told(mirror, [0, 1, 0]), told(mirror, [0, 1, 1]), told(mirror, [1]), mirror == Mirror(letters=2)]
[2, 2, True, False, True, True]
>>> [said(mirror, [0, 1, 0, 0, 1, 0], tick) for tick in range(6)]
[True, False, True, False, False, True]
>>> Mirror(7)
raises BadNumber('letters')
"""

SAYINGS = """
>>> saying = ("both", ("many", 0, 1), ("not", ["begins", 1]))
>>> [is_saying(value) for value in (saying, ("many", 0, 0), ("then", [0, 0]), ["then", (0, 1, 0)], ("length", 3, 3), ("mirror",), "mirror", ("has", []))]
[True, False, False, True, False, True, False, False]
>>> [letters_in(saying), letters_in(("mirror",)), means(saying, [0, 1, 2]), means(saying, (1, 0)), means(("has", [0, 1]), [1, 0, 0, 1]), means(("length", 3, 2), [0, 0])]
[2, 1, True, False, True, True]
>>> [means(("then", [0, 1, 0]), word) for word in ([0, 1, 0], [0, 0, 1, 1, 0, 0], [0, 1], [0, 1, 1, 0])]
[True, True, False, False]
>>> [words_so(("nested", 0, 1), 2, 4), words_so(("mirror",), 2, 2), words_so(("ends", 3), 2, 1)]
[((0, 0, 1, 1), (0, 1, 0, 1)), ((0, 0), (1, 1)), ()]
>>> means("mirror", [0])
raises BadSaying('saying')
>>> words_so(("mirror",), 3, 8)
raises TooMany('words', 4096)
"""

SAYING_TEXTS = """
>>> [saying_text(saying), saying_text(("has", [1, 0])), saying_read("then 3 0 1 2"), saying_read("not either mirror length 2 0")]
['both many 0 1 not begins 1', 'has 2 1 0', ('then', (0, 1, 2)), ('not', ('either', ('mirror',), ('length', 2, 0)))]
>>> saying_read("both mirror")
raises BadText(0, 2)
>>> saying_read("many 1 1")
raises BadText(0, 2)
>>> saying_read("mirror 0")
raises BadText(0, 1)
"""

SPOKEN = """
>>> row = row_of(saying, 2)
>>> [row.letters, row.ways, told(row, [0, 0, 1, 1]), told(row, [1, 0]), [said(row, [0, 1, 1, 0], tick) for tick in range(4)]]
[2, 2, True, False, [False, True, False, True]]
>>> waves = row_of(["then", [0, 1, 2, 0]], 3)
>>> [told(waves, [0, 0, 1, 1, 2, 2, 0, 0]), told(waves, [0, 0, 1, 1, 2, 0, 0]), told(OneWay(waves), [0, 1, 2, 0])]
[True, False, True]
>>> [takes(eater_of(("nested", 1, 0), 3), word) for word in ([1, 2, 0], [1, 0, 0], [2])]
[True, False, True]
>>> row_of(("ends", 2), 2)
raises Misfit('letters')
>>> eater_of(("not", ("ends", 1)), 2)
raises Misfit('saying')
"""

SPED = """
>>> near = Table(2, 2, 4, {(None, 0, 0): 2, (2, 0, None): 3, (0, 0, None): 0, (2, 0, 0): 2, (2, 0, 3): 3, (2, 2, 3): 3, (None, 2, 3): 3}, [3])
>>> [worth_at(near, [0, 0, 0], 0, tick) for tick in range(7)]
[0, 2, 2, 2, 2, 3, 3]
>>> quick = Sped(near, 2)
>>> [quick.inner(worth_at(quick, [0, 0, 0], 0, tick)) for tick in range(5)]
[0, 2, 2, 2, 3]
>>> [said(quick, [0, 0, 0], tick) for tick in range(5)] + [said(Sped(near, 3), [0, 0, 0], 3)]
[False, False, False, False, True, True]
>>> [inner_tick(3, 2, 2), inner_tick(3, 2, 4), cut_tick(3, 2, 5), cut_tick(3, 3, 5), cut_tick(3, 3, 2)]
[2, 6, 4, 3, 2]
>>> [quick.by, quick.ways, quick == Sped(near, 2), quick == Sped(near, 3)]
[2, 2, True, False]
>>> Sped(last, 2)
raises Misfit('ways')
"""

SIGNALS = """
>>> bounce = Signals([(1, 1), (-1, 2), (0, 1)], [([0, 2], [1, 2])], [[], [0], []], [[], [0], [2]], 0)
>>> [bounce.letters, bounce.ways, bounce.begin(1), bounce.meets, bounce.says(((0, 0), (2, 0))), bounce.says(())]
[3, 2, ((0, 0),), (((0, 2), (1, 2)),), True, False]
>>> strip(bounce, [1, 2, 0], 4)
((((0, 0),), ((2, 0),), ()), ((), ((1, 0), (2, 0)), ()), ((), ((1, 1), (2, 0)), ()), (((1, 0),), ((2, 0),), ()), (((1, 1),), ((2, 0),), ()))
>>> [bounce.next(None, ((1, 1),), ((2, 0),)), bounce.next((), ((0, 0),), None), bounce.next(((0, 0),), ((0, 0), (1, 0)), ((1, 1),))]
[((0, 0),), (), ((0, 0), (1, 0), (1, 1))]
>>> str(bounce).split("\\n")
['kind 1 1', 'kind -1 2', 'kind 0 1', 'meet 0 2 = 1 2', 'border', 'border 0', 'border', 'begin', 'begin 0', 'begin 2', 'flash 0']
>>> Signals([(1, 1), (0, 2)], [], [[], []], [[]], 0)
raises BadSignals('kinds')
>>> Signals.read("kind 1 1\\nmeet = 0")
raises BadText(1, 1)
"""

FLASHES = """
>>> [flashes(squares(), [1, 2] + [0] * 6, 30), flashes(doubles(), [1] + [0] * 9, 36), flashes(echoes(), [1, 0, 0, 2, 0], 20)]
[(1, 4, 9, 16, 25), (4, 8, 16, 32), (1, 8, 15)]
>>> [line_at((1, 3), 2, 7), line_at((-1, 1), 2, 3), line_at((0, 1), 4, 100)]
[4, None, 4]
>>> [meeting((1, 1), 0, (0, 1), 5), meeting((1, 1), 0, (-1, 1), 5), meeting((1, 1), 0, (1, 3), 2), meeting((1, 2), 0, (-1, 1), 6)]
[5, None, 2, 4]
"""

PICTURES = """
>>> [picture(some, [0, 0, 1], 2), listing(last, [0, 1, 0], 3), slanted(some, (0, 0, 1))]
[('..#', '.##', '###'), ('010', '211', '212', '212'), ('...', '0..', '.0.', '.01', '..1', '..1')]
>>> slanted(last, [0])
raises Misfit('ways')
"""

DESK = """
>>> desk = Desk()
>>> [desk.tell(line) for line in ("table some ways 2 letters 2 worths 2 / yes 1 / - 0 1 > 1 / 0 0 1 > 1 / 1 0 1 > 1", "told some 0 0 1", "due some 3", "words some 2")]
['ways 2 letters 2', 'yes', '0 2', '0 1 / 1 0 / 1 1']
>>> [desk.tell(line) for line in ("oneway left some", "due left 3", "unlike some left 4", "not none some", "unlike some none 3", "picture some 2 0 0 1")]
['ways 1 letters 2', '2 5', '-', 'ways 2 letters 2', '0', '..# / .## / ###']
>>> [desk.tell("undo"), desk.tell("names"), desk.tell("again"), told(desk.row("none"), [0, 0]), len(desk.log)]
['not none some', 'left some', 'ways 2 letters 2', True, 3]
>>> desk.tell("told some 0 x")
raises BadText(0, 3)
>>> desk.tell("both some some left")
raises Twice('some')
>>> desk.tell("both most some left")
raises Misfit('ways')
>>> desk.tell("table more ways 2 letters 2 worths 2 / yes / 0 0 > 1")
raises BadText(0, 13)
"""

SCRIPTS = """
>>> played(["saying any 2 has 1 1", "told any 0 1", "words any 1", "sped soon any 2", "drop any", "log"])
('ways 2 letters 2', 'yes', '1', 'ways 2 letters 2', 'any', 'saying any 2 has 1 1 / sped soon any 2 / drop any')
>>> played(["names", "drop some"])
raises BadLine
"""

SECTIONS = (
    ("errors", errors, None), ("checks", checks, CHECKS), ("papers", papers, PAPERS), ("words", words, WORDS), ("rows", rows, None),
    ("tables", tables, TABLES), ("runs", runs, RUNS), ("slants", slants, SLANTS), ("folds", folds, FOLDS),
    ("joined", joined, JOINED), ("listed", listed, LISTED), ("check_listed", check_listed, CHECK_LISTED),
    ("unlike", unlike, UNLIKE), ("eaters", eaters, EATERS), ("fed", fed, FED), ("mirrors", mirrors, MIRRORS),
    ("sayings", sayings, SAYINGS), ("saying_texts", saying_texts, SAYING_TEXTS), ("spoken", spoken, SPOKEN), ("sped", sped, SPED),
    ("signals", signals, SIGNALS), ("flashes", flashes, FLASHES), ("pictures", pictures, PICTURES), ("desk", desk, DESK), ("scripts", scripts, SCRIPTS),
)


class Examples(unittest.TestCase):
    def test_examples(self):
        names = {}
        for title, module, text in SECTIONS:
            names.update({name: value for name, value in vars(module).items() if not name.startswith("__")})
            if text is None:
                continue
            examples = examples_of(text)
            self.assertTrue(examples)
            for source, expected in examples:
                with self.subTest(section=title, source=source):
                    self.assertIsNone(run_example(source, expected, names))


if __name__ == "__main__":
    unittest.main()
