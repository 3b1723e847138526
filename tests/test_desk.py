"""backwardrow.desk: each line and its answer, what is kept, undo and again, errors in their order."""

import random
import unittest

from backwardrow.desk import Desk
from backwardrow.joined import Both, Not, Renamed
from backwardrow.runs import told
from backwardrow.slants import OneWay
from backwardrow.sped import Sped
from backwardrow.spoken import row_of
from backwardrow.tables import Table
from helpers import HUGE, NO_STRINGS, ODD, error_of
from made_desks import KEPT, DeskByHand, is_name, line_by_chance, table_line, wrong_item

SOME = "ways 2 letters 2 worths 2 / yes 1 / - 0 1 > 1 / 0 0 1 > 1 / 1 0 1 > 1"
LAST = "ways 1 letters 2 worths 3 / yes 1 2 / - 0 > 2 / 1 0 > 1 / 1 1 > 2"
RIGHT = (
    "table a " + SOME, "table b " + LAST, "table c ways 1 letters 1 worths 1 / yes", "saying d 2 both many 0 1 not begins 1", "saying e 6 has 3 0 5 5",
    "saying f 3 then 4 0 1 2 0", "saying g 1 length 6 5", "oneway h a", "twoways i b", "not j a", "both k a j", "either l a j", "renamed m a 1 0 0",
    "sped n a 2", "drop a", "undo", "again", "log", "names", "told a 0 0 1", "said a 3 0 1", "due a 200", "words a 3", "unlike a j 4", "picture a 2 0 0 1", "text a",
)
SPOILT = (
    "", "x", "X", "-", "/", "//", "a", "b9", "9b", "abcdefghijkl", "abcdefghijklm", "a_b", "\u00e9", "0", "1", "2", "4", "5", "6", "12", "13", "200", "201", "1000",
    "1001", "-1", "-0", "01", "+1", "1.0", "1\n", "\n", "a\n", "a\n0", "yes", "mirror", ">", "9" * 60, "1" * 61, "\t", "a\r", "undo", "names",
)
NAMES = (
    ("a", True), ("z9", True), ("abcdefghijkl", True), ("a00000000000", True), ("table", True), ("undo", True), ("n0", True), ("", False), ("0", False), ("0a", False),
    ("abcdefghijklm", False), ("A", False), ("aB", False), ("a_", False), ("a-b", False), ("-", False), ("/", False), ("a.", False), ("\u00e9", False), ("a\u0661", False),
    ("a\n", False), ("a/", False), ("1", False), ("#", False), ("`", False), ("{", False), ("a`", False), ("a{", False), ("a:", False),
)


def desk_with(*lines):
    desk = Desk()
    for line in lines:
        desk.tell(line)
    return desk


def kept_by(desk):
    """All that can be seen of a desk."""
    names = desk.tell("names").split(" ") if desk.tell("names") != "-" else []
    return (desk.log, [(name, id(desk.row(name))) for name in names])


class Lines(unittest.TestCase):
    def test_each_line_and_its_answer(self):
        desk = Desk()
        for line, answer in (
            ("names", "-"), ("log", "-"),
            ("table some " + SOME, "ways 2 letters 2"), ("table last " + LAST, "ways 1 letters 2"), ("text some", SOME), ("text last", LAST),
            ("saying pairs 3 nested 0 1", "ways 2 letters 3"), ("oneway left some", "ways 1 letters 2"), ("twoways fold last", "ways 2 letters 2"),
            ("not none some", "ways 2 letters 2"), ("both two some none", "ways 2 letters 2"), ("either one some none", "ways 2 letters 2"),
            ("renamed many some 1 0 0 0 1 1", "ways 2 letters 6"), ("sped soon some 4", "ways 2 letters 2"),
            ("told some 0 0 1", "yes"), ("told some 0 0 0", "no"), ("told left 0 0 1", "yes"), ("told none 0 0 1", "no"), ("told pairs 0 2 0 1 1", "yes"),
            ("said some 1 0 0 1", "no"), ("said some 2 0 0 1", "yes"), ("said some 1000 0", "no"), ("said left 3 0 1", "yes"), ("said left 2 0 1", "yes"), ("said left 1 0 1", "no"),
            ("due some 1", "0 0"), ("due some 200", "0 199"), ("due left 1", "0 1"), ("due last 200", "199 399"),
            ("words some 2", "0 1 / 1 0 / 1 1"), ("words two 3", "-"), ("words one 1", "0 / 1"), ("words pairs 1", "2"), ("words pairs 2", "0 1 / 2 2"),
            ("words some 12", " / ".join(" ".join(f"{number:012b}") for number in range(1, 4096))),
            ("unlike some none 12", "0"), ("unlike some left 4", "-"), ("unlike some two 3", "1"), ("unlike fold last 6", "-"),
            ("picture some 2 0 0 1", "..# / .## / ###"), ("picture some 0 0", "."), ("picture last 1 1 0 1", "#.# / ###"),
            ("picture pairs 1 0 1", ".. / #."), ("names", "fold last left many none one pairs some soon two"), ("drop left", "left"), ("drop many", "many"),
            ("names", "fold last none one pairs some soon two"),
        ):
            self.assertEqual(error_of(desk.tell, line), ("none", answer), line)
        self.assertEqual(desk.tell("log"), " / ".join(desk.log))
        self.assertEqual([line.split(" ")[0] for line in desk.log], "table table saying oneway twoways not both either renamed sped drop drop".split())
        self.assertIsInstance(desk.log, tuple)
        self.assertEqual(desk.tell(line="told some 1"), "yes")

    def test_rows_that_are_kept(self):
        desk = desk_with("table some " + SOME, "saying pairs 3 nested 0 1", "oneway left some", "not none some", "both two some none", "renamed many some 1 0", "sped soon some 4")
        some = Table.read(SOME.replace(" / ", "\n"))
        for name, row in (("some", some), ("left", OneWay(some)), ("none", Not(some)), ("two", Both(some, Not(some))), ("many", Renamed(some, [1, 0])),
                          ("soon", Sped(some, 4)), ("pairs", row_of(("nested", 0, 1), 3))):
            self.assertIs(desk.row(name) == row, True)
            self.assertIs(desk.row(name=name) == row, True)
        self.assertIs(told(desk.row("left"), [0, 1]), True)

    def test_names(self):
        for name, right in NAMES:
            self.assertIs(is_name(name), right, name)
            desk = desk_with("table some " + SOME)
            wanted = ("none", "ways 2 letters 2") if right else ("BadText", 0, 1)
            self.assertEqual(error_of(desk.tell, f"not {name} some"), wanted, name)
            wanted = ("none", "ways 2 letters 2") if right else ("BadText", 0, 2)
            self.assertEqual(error_of(desk.tell, f"not other {name}"), wanted, name)
            if right:
                self.assertEqual(desk.tell(f"drop {name}"), name)
                self.assertEqual(desk.tell("names"), "other some")

    def test_row_of_no_name(self):
        desk = desk_with("table some " + SOME)
        for value in ("", "other", "Some", "some ", "so me", "some\n", *NO_STRINGS, ("some",), ["some"], {"some": 1}, HUGE, ODD):
            error = error_of(desk.row, value)
            self.assertEqual(error[0], "NoName")
            self.assertIs(error[1], value)
        self.assertEqual(error_of(Desk().row, "some"), ("NoName", "some"))


class Wrong(unittest.TestCase):
    def check(self, desk, line):
        wrong = wrong_item(line)
        before = kept_by(desk)
        found = error_of(desk.tell, line)
        if wrong is not None:
            self.assertEqual(found, ("BadText", 0, wrong), line[:300])
            self.assertEqual(kept_by(desk), before)
        else:
            self.assertNotEqual(found[0], "BadText", line)

    def test_no_strings(self):
        desk = desk_with("table some " + SOME)
        for value in (*NO_STRINGS, b"names", ["names"], ("log",), HUGE):
            self.assertEqual(error_of(desk.tell, value), ("BadText", 0, 0))
        self.assertEqual(len(desk.log), 1)

    def test_told_by_hand(self):
        desk = desk_with("table some " + SOME)
        for line, item in (
            ("", 0), (" ", 0), ("Table", 0), ("names ", 1), ("names some", 1), ("log\n", 0), ("log \n", 1), ("undo 1", 1), ("again again", 1), ("drop", 1), ("drop some some", 2),
            ("told", 1), ("told some", 2), ("told some ", 2), ("told some 6", 2), ("told some 0 x", 3), ("told some 0  1", 3), ("told some 0\n1", 2), ("told some 0 1\n", 3),
            ("told some " + "0 " * 199 + "0 0", 202), ("said some 1", 3), ("said some 1001 0", 2), ("said some -1 0", 2), ("said some 0", 3), ("said 0 some", 1), ("due some", 2),
            ("due some 0", 2), ("due some 201", 2), ("due some 1 1", 3), ("words some 0", 2), ("words some 201", 2), ("words some", 2), ("unlike some some 0", 3),
            ("unlike some some 13", 3), ("unlike some 3", 2), ("unlike some some", 3), ("picture some 0", 3), ("picture some 1001 0", 2), ("text", 1), ("text some 0", 2),
            ("oneway a", 2), ("oneway a some some", 3), ("oneway some", 2), ("both a some", 3), ("both a some some some", 4), ("renamed a some", 3), ("renamed a some 6", 3),
            ("renamed a some 0 0 0 0 0 0 0", 9), ("sped a some", 3), ("sped a some 1", 3), ("sped a some 5", 3), ("sped a some 2 2", 4), ("saying a", 2), ("saying a 0 mirror", 2),
            ("saying a 7 mirror", 2), ("saying a 2", 3), ("saying a 2 mirror mirror", 4), ("saying a 2 both mirror", 5), ("saying a 2 many 1 1", 5), ("saying a 2 has 2 0", 6),
            ("saying a 2 not not not not not not mirror", 9), ("table a", 2), ("table a /", 2), ("table a ways 3", 3), ("table a ways 2 letters 2 worths 2", 8),
            ("table a ways 2 letters 2 worths 2 /", 9), ("table a ways 2 letters 2 worths 2 / yes /", 11), ("table a ways 2 letters 2 worths 2 / yes / 0 0 > 1", 13),
            ("table a ways 2 letters 2 worths 2 / yes / 0 0 1 > 1 / 0 0 1 > 1", 19), ("table a ways 2 letters 2 / worths 2 / yes", 6), ("table a ways 2 letters 2 worths 2\nyes", 7),
            ("table a ways 2 letters 2 worths 2 / yes 1 1", 11), ("table a ways 2 letters 2 worths 2 / yes 1 0", 11), ("table a ways 2 letters 2 worths 2 / / yes", 9),
            ("table a ways 2 letters 2 worths 2 / yes / / 0 0 1 > 1", 11), ("table a ways 2 letters 2 worths 2 / yes / 0 0 1 >", 15), ("table a ways 2 letters 2 worths 2 yes", 8),
        ):
            self.assertEqual(error_of(desk.tell, line), ("BadText", 0, item), line[:80])
            self.assertEqual(wrong_item(line), item, line[:80])

    def test_items_spoilt_left_out_doubled_put_in(self):
        desk = Desk()
        for line in RIGHT:
            self.assertIsNone(wrong_item(line), line)
            items = line.split(" ")
            for at in range(len(items) + 1):
                found = [items[:at] + items[at + 1:], items[:at] + items[max(0, at - 1):], items[:at]]
                for item in SPOILT:
                    found += [items[:at] + [item] + items[at + 1:], items[:at] + [item] + items[at:]]
                if at + 1 < len(items):
                    found.append(items[:at] + [items[at] + "\n" + items[at + 1]] + items[at + 2:])
                for new in found:
                    self.check(desk, " ".join(new))
                    if desk.log:
                        desk = Desk()

    def test_by_chance(self):
        chance = random.Random(1)
        items_of_all = sorted({item for line in RIGHT for item in line.split(" ")} | set(SPOILT))
        for _ in range(4000):
            items = chance.choice(RIGHT).split(" ")
            for _ in range(chance.randint(1, 2)):
                at = chance.randrange(len(items) + 1)
                items[at:at + chance.randint(0, 1)] = [chance.choice(items_of_all) for _ in range(chance.randint(0, 1))]
            self.check(Desk(), " ".join(items))

    def test_numbers_at_their_bounds(self):
        desk = desk_with("table some " + SOME, "table last " + LAST)
        for form, least, most in (("said some {} 1", 0, 1000), ("picture some {} 1", 0, 1000), ("due some {}", 1, 200), ("unlike some some {}", 1, 12), ("words some {}", 1, 200)):
            for number in (least - 1, least, least + 1, most - 1, most, most + 1):
                error = error_of(desk.tell, form.format(number))
                self.assertEqual(error == ("BadText", 0, 3 if "unlike" in form else 2), not least <= number <= most, (form, number))
        for number in range(7):
            self.assertEqual(error_of(desk.tell, f"sped a{number} some {number}")[0], "none" if 2 <= number <= 4 else "BadText")
        for number in range(9):
            self.assertEqual(error_of(desk.tell, f"saying b{number} {number} mirror")[0], "none" if 1 <= number <= 6 else "BadText")
            self.assertEqual(error_of(desk.tell, f"renamed c{number} some" + " 0" * number)[0], "none" if 1 <= number <= 6 else "BadText")
        self.assertEqual(desk.tell("told some" + " 0" * 200), "no")
        self.assertEqual(desk.tell("told some" + " 0" * 199 + " 1"), "yes")


class Order(unittest.TestCase):
    def full(self):
        """A desk with 200 lines in its log, and two rows."""
        desk = desk_with("table some " + SOME, "table last " + LAST)
        for _ in range(99):
            desk.tell("not x some")
            desk.tell("drop x")
        return desk

    def test_200_lines(self):
        desk = self.full()
        self.assertEqual(len(desk.log), 200)
        for line in ("not y some", "not some none", "not none none", "drop some", "drop none", "table y " + SOME, "saying y 2 ends 5", "oneway y last", "renamed y some 5", "both y some last"):
            self.assertEqual(error_of(desk.tell, line), ("TooMany", "lines", 200), line)
        self.assertEqual(error_of(desk.tell, "not y 0"), ("BadText", 0, 2))
        for line, answer in (("names", "last some"), ("told some 1", "yes"), ("due last 2", "1 3"), ("undo", "drop x"), ("names", "last some x"), ("again", "x"), ("names", "last some")):
            self.assertEqual(desk.tell(line), answer)
        self.assertEqual(error_of(desk.tell, "not y some"), ("TooMany", "lines", 200))
        desk.tell("undo")
        self.assertEqual(desk.tell("not y some"), "ways 2 letters 2")
        self.assertEqual(len(desk.log), 200)

    def test_one_behind_another(self):
        desk = desk_with("table some " + SOME, "table last " + LAST, "saying three 3 mirror")
        for line, error in (
            ("not some 0", ("BadText", 0, 2)), ("not some none", ("Twice", "some")), ("table some " + LAST, ("Twice", "some")), ("both last none none", ("Twice", "last")),
            ("oneway some last", ("Twice", "some")), ("saying some 2 ends 5", ("Twice", "some")), ("sped some last 2", ("Twice", "some")), ("renamed some some 5", ("Twice", "some")),
            ("both x none other", ("NoName", "none")), ("both x some other", ("NoName", "other")), ("both x none some", ("NoName", "none")), ("either x last y", ("NoName", "y")),
            ("not x x", ("NoName", "x")), ("renamed x y 5", ("NoName", "y")), ("sped x y 2", ("NoName", "y")), ("drop x", ("NoName", "x")), ("told x 5", ("NoName", "x")),
            ("said x 0 5", ("NoName", "x")), ("due x 3", ("NoName", "x")), ("words x 200", ("NoName", "x")), ("unlike x y 12", ("NoName", "x")), ("unlike some y 12", ("NoName", "y")),
            ("picture x 1000 5", ("NoName", "x")), ("text x", ("NoName", "x")), ("text three", ("Misfit", "table")), ("oneway x last", ("Misfit", "ways")),
            ("twoways x some", ("Misfit", "ways")), ("sped x last 3", ("Misfit", "ways")), ("both x some last", ("Misfit", "ways")), ("either x three some", ("Misfit", "letters")),
            ("both x three last", ("Misfit", "ways")), ("renamed x some 0 1 2", ("BadNumber", "letters")), ("saying x 2 ends 2", ("Misfit", "letters")),
            ("told some 0 2", ("BadWord", "word")), ("said some 1000 2", ("BadWord", "word")), ("picture last 3 0 5", ("BadWord", "word")), ("words some 13", ("TooMany", "words", 4096)),
            ("words three 8", ("TooMany", "words", 4096)), ("unlike some three 12", ("Misfit", "letters")), ("unlike three three 8", ("TooMany", "words", 4096)),
            ("again", ("Nothing",)), ("again 1", ("BadText", 0, 1)),
        ):
            before = kept_by(desk)
            self.assertEqual(error_of(desk.tell, line), error, line)
            self.assertEqual(kept_by(desk), before)
        for line in ("undo", "again"):
            self.assertEqual(error_of(Desk().tell, line), ("Nothing",))

    def test_a_line_that_raises_changes_nothing(self):
        desk = desk_with("table some " + SOME, "not x some", "not y x")
        desk.tell("undo")
        desk.tell("undo")
        for line in ("not some some", "drop x", "oneway z x", "sped z some 9", "told some 9", "words some 13", "text z", "renamed z some 5", 5):
            before = kept_by(desk)
            self.assertNotEqual(error_of(desk.tell, line)[0], "none")
            self.assertEqual(kept_by(desk), before)
        self.assertEqual([desk.tell("again"), desk.tell("again"), error_of(desk.tell, "again")], ["ways 2 letters 2", "ways 2 letters 2", ("Nothing",)])


class UndoAndAgain(unittest.TestCase):
    def test_told_by_hand(self):
        desk = Desk()
        for line, answer in (
            ("table some " + SOME, "ways 2 letters 2"), ("not x some", "ways 2 letters 2"), ("oneway y x", "ways 1 letters 2"), ("drop some", "some"), ("names", "x y"),
            ("undo", "drop some"), ("names", "some x y"), ("told some 1", "yes"), ("undo", "oneway y x"), ("undo", "not x some"), ("names", "some"), ("log", "table some " + SOME),
            ("again", "ways 2 letters 2"), ("names", "some x"), ("told x 1", "no"), ("again", "ways 1 letters 2"), ("due y 2", "1 3"), ("again", "some"), ("names", "x y"),
            ("undo", "drop some"), ("again", "some"), ("undo", "drop some"), ("drop y", "y"),
        ):
            self.assertEqual(desk.tell(line), answer, line)
        self.assertEqual(error_of(desk.tell, "again"), ("Nothing",))
        for line in ("undo", "undo", "undo", "undo"):
            desk.tell(line)
        self.assertEqual((desk.log, desk.tell("names"), error_of(desk.tell, "undo")), ((), "-", ("Nothing",)))
        self.assertEqual([desk.tell("again") for _ in range(4)], ["ways 2 letters 2", "ways 2 letters 2", "ways 1 letters 2", "y"])

    def test_lines_that_are_not_kept_between(self):
        desk = desk_with("table some " + SOME, "not x some")
        desk.tell("undo")
        for line in ("names", "log", "told some 0", "due some 3", "words some 1", "text some", "picture some 1 0"):
            desk.tell(line)
        error_of(desk.tell, "not some some")
        error_of(desk.tell, "nothing")
        self.assertEqual(desk.tell("again"), "ways 2 letters 2")

    def test_a_line_that_is_kept_between(self):
        desk = desk_with("table some " + SOME, "not x some", "not y some")
        desk.tell("undo")
        desk.tell("undo")
        desk.tell("drop some")
        self.assertEqual(error_of(desk.tell, "again"), ("Nothing",))
        desk.tell("undo")
        self.assertEqual([desk.tell("again"), error_of(desk.tell, "again")], ["some", ("Nothing",)])

    def test_dropped_rows_stay_in_what_was_made_of_them(self):
        desk = desk_with("table some " + SOME, "not x some", "both y x x", "drop some", "drop x", "table some " + LAST)
        self.assertEqual([desk.tell("told y 0 0"), desk.tell("told y 0 1"), desk.tell("text some")], ["yes", "no", LAST])
        desk.tell("undo")
        self.assertEqual(error_of(desk.tell, "text some"), ("NoName", "some"))
        desk.tell("undo")
        desk.tell("undo")
        self.assertEqual([desk.tell("text some"), desk.tell("told x 1")], [SOME, "no"])


class Evenings(unittest.TestCase):
    def test_against_a_desk_by_hand(self):
        for seed in range(25):
            chance = random.Random(seed)
            desk, wanted = Desk(), DeskByHand()
            for number in range(120):
                fate = chance.random()
                if fate < 0.15 and wanted.past:
                    line = "undo"
                elif fate < 0.28 and wanted.future:
                    line = "again"
                else:
                    line = line_by_chance(chance, wanted, fate < 0.6, number)
                self.assertIsNone(wrong_item(line), line)
                self.assertEqual(desk.tell(line), wanted.tell(line), line)
                self.assertEqual(desk.log, tuple(wanted.log()))
            self.assertEqual(desk.tell("names"), " ".join(sorted(wanted.kept)) or "-")
            other = desk_with(*desk.log)
            for name in sorted(wanted.kept):
                self.assertIs(desk.row(name) == wanted.kept[name], True)
                self.assertIs(other.row(name) == desk.row(name), True)
            for number in range(40):
                line = line_by_chance(chance, wanted, False, number)
                self.assertEqual(other.tell(line), desk.tell(line))
            while desk.log:
                self.assertEqual(other.tell("undo"), desk.tell("undo"))
                self.assertEqual(other.tell("names"), desk.tell("names"))

    def test_many_undone_and_done_again(self):
        chance = random.Random(99)
        desk, wanted = Desk(), DeskByHand()
        for number in range(200):
            line = line_by_chance(chance, wanted, True, number)
            self.assertEqual(desk.tell(line), wanted.tell(line))
        log, names = desk.log, desk.tell("names")
        self.assertEqual(error_of(desk.tell, table_line("more", desk_with("table a " + SOME).row("a"))), ("TooMany", "lines", 200))
        self.assertEqual([desk.tell("undo") for _ in range(200)], list(log)[::-1])
        self.assertEqual((desk.log, desk.tell("names")), ((), "-"))
        self.assertTrue(all(desk.tell("again").startswith("ways") or line.startswith("drop") for line in log))
        self.assertEqual((desk.log, desk.tell("names")), (log, names))
        self.assertIn("drop", [line.split(" ")[0] for line in log])
        self.assertEqual(set(line.split(" ")[0] for line in log), set(KEPT))

    def test_desks_are_apart(self):
        one, other = Desk(), Desk()
        one.tell("table some " + SOME)
        self.assertEqual((other.log, other.tell("names")), ((), "-"))


if __name__ == "__main__":
    unittest.main()
