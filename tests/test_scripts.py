"""backwardrow.scripts: the answers of whole scripts, and the line and the error of the first one that raises."""

import random
import unittest

from backwardrow.desk import Desk
from backwardrow.errors import BadLine, BadText, Misfit, NoName, Nothing, TooMany, Twice
from backwardrow.scripts import played
from helpers import FIELDS, NO_LISTS, NO_STRINGS, ODD, error_of
from made_desks import DeskByHand, line_by_chance

SOME = "table some ways 2 letters 2 worths 2 / yes 1 / - 0 1 > 1 / 0 0 1 > 1 / 1 0 1 > 1"


class Played(unittest.TestCase):
    def test_answers(self):
        self.assertEqual(played([]), ())
        self.assertEqual(played(()), ())
        lines = [SOME, "told some 0 1", "undo", "names", "again", "log"]
        self.assertEqual(played(lines=lines), ("ways 2 letters 2", "yes", SOME, "-", "ways 2 letters 2", SOME))
        self.assertEqual(played(tuple(lines)), played(lines))
        self.assertEqual(lines[3], "names")

    def test_a_new_desk_each_time(self):
        self.assertEqual(played([SOME]), played([SOME]))
        self.assertEqual(played(["names"]), ("-",))

    def test_evenings(self):
        for seed in range(8):
            chance = random.Random(seed + 500)
            wanted, lines, answers, desk = DeskByHand(), [], [], Desk()
            for number in range(70):
                line = line_by_chance(chance, wanted, chance.random() < 0.4, number)
                lines.append(line)
                answers.append(wanted.tell(line))
            self.assertEqual(played(lines), tuple(answers))
            self.assertEqual(tuple(desk.tell(line) for line in lines), tuple(answers))

    def test_no_lists_of_strings(self):
        for value in (*NO_LISTS, {}, {"names": 1}, {"names"}, iter(["names"]), ODD, "names"):
            self.assertEqual(error_of(played, value), ("BadText", 0, 0))
        for value in NO_STRINGS:
            self.assertEqual(error_of(played, [value]), ("BadText", 0, 0))
            self.assertEqual(error_of(played, ("x", "names", value)), ("BadText", 0, 0))

    def test_the_first_line_that_raises(self):
        for lines, number, kind, fields in (
            (["names", "drop some"], 1, NoName, ("some",)), (["again"], 0, Nothing, ()), ([SOME, "undo", "undo", "x"], 2, Nothing, ()),
            ([SOME, "names", "told some 0 x", "again"], 2, BadText, (0, 3)), ([SOME, SOME], 1, Twice, ("some",)), ([SOME, "twoways x some"], 1, Misfit, ("ways",)),
            ([SOME, "words some 13"], 1, TooMany, ("words", 4096)), ([SOME] + ["not x some", "drop x"] * 100, 200, TooMany, ("lines", 200)), ([""], 0, BadText, (0, 0)),
        ):
            try:
                played(lines)
            except BadLine as error:
                self.assertEqual(error.line, number)
                self.assertIs(type(error.error), kind)
                self.assertEqual(tuple(getattr(error.error, field) for field in FIELDS[kind.__name__]), fields)
            else:
                self.fail(lines)


if __name__ == "__main__":
    unittest.main()
