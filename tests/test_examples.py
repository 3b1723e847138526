"""The examples of the document, module by module, in its order."""

import unittest

from backwardrow import checks, papers, words
from helpers import examples_of, run_example

CHECKS = """
>>> [is_integer(False), is_within(4, None, 4), is_letter(2, 3), is_letter(3, 3), is_letter(True, 3), is_word([0, 2, 2], 3), is_word((0, 3), 3), is_word([], 3), is_word("01", 3)]
[False, True, True, False, False, True, False, False, False]
"""

PAPERS = """
>>> note = Paper("note", [1, (2, [3])])
>>> [note.parts, bool(note), bool(Denial("no")), note == Denial("note", [1, (2, [3])]), fixed([[], {"a": [1]}])]
[((1, (2, (3,))),), True, False, False, ((), {'a': [1]})]
"""

WORDS = """
>>> [all_words(2, 2), all_words(1, 3), next_word(2, [0, 1]), next_word(2, (1, 1)), next_word(1, [0]), mirrored([2, 0, 1]), word_text((2, 0, 1)), word_read("4 4")]
[((0, 0), (0, 1), (1, 0), (1, 1)), ((0, 0, 0),), (1, 0), (0, 0, 0), (0, 0), (1, 0, 2), '2 0 1', (4, 4)]
>>> next_word(2, [0, 2])
raises BadWord('word')
>>> word_read("0 6")
raises BadText(0, 1)
>>> all_words(3, 8)
raises TooMany('words', 4096)
"""

SECTIONS = (("checks", checks, CHECKS), ("papers", papers, PAPERS), ("words", words, WORDS))


class Examples(unittest.TestCase):
    def test_examples(self):
        names = {}
        for title, module, text in SECTIONS:
            names.update({name: value for name, value in vars(module).items() if not name.startswith("__")})
            examples = examples_of(text)
            self.assertTrue(examples)
            for source, expected in examples:
                with self.subTest(section=title, source=source):
                    self.assertIsNone(run_example(source, expected, names))


if __name__ == "__main__":
    unittest.main()
