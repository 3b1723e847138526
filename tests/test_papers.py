"""backwardrow.papers: parts, truth, equality, copies."""

import unittest

from backwardrow.papers import Denial, Paper, fixed
from helpers import NO_INTEGERS, ODD


class Other(Paper):
    """A class of papers beside those of the module."""

    def __init__(self, part):
        Paper.__init__(self, "other", part)


class Papers(unittest.TestCase):
    def test_fixed(self):
        for value, wanted in (
            ([], ()), ((), ()), ([[]], ((),)), ([1, (2, [3])], (1, (2, (3,)))), (([],), ((),)),
            ([{"a": [1]}, [{"b": ([2],)}]], ({"a": [1]}, ({"b": ([2],)},))), (["ab", b"c"], ("ab", b"c")),
        ):
            self.assertEqual(fixed(value), wanted)
            self.assertEqual(repr(fixed(value)), repr(wanted))
        self.assertEqual(fixed(value=[1]), (1,))

    def test_fixed_leaves_other_values(self):
        for value in (None, True, 0, -7, "ab", "", b"x", 1.5, ODD, int, {"a": [1]}, {}, {1, 2}):
            self.assertIs(fixed(value), value)
            self.assertIs(fixed([value])[0], value)

    def test_fixed_deeply(self):
        value, wanted = [1], (1,)
        for depth in range(30):
            value = [value, (value, depth)] if depth < 10 else [value]
            wanted = (wanted, (wanted, depth)) if depth < 10 else (wanted,)
        self.assertEqual(fixed(value), wanted)

    def test_attributes(self):
        for made in (Paper, Denial):
            paper = made("note", [1, (2, [3])], {"a": [4]}, None, "x")
            self.assertEqual(paper.word, "note")
            self.assertEqual(paper.parts, ((1, (2, (3,))), {"a": [4]}, None, "x"))
            self.assertIsInstance(paper.parts, tuple)
            self.assertEqual(repr(paper.parts[0]), "(1, (2, (3,)))")
            self.assertEqual(made("note").parts, ())
            self.assertEqual(made(word="note").word, "note")

    def test_truth(self):
        for parts in ((), (0,), (None,), ([],), (False, 1)):
            self.assertIs(bool(Paper("", *parts)), True)
            self.assertIs(bool(Denial("no", *parts)), False)
        self.assertIs(bool(Other(0)), True)

    def test_classes(self):
        self.assertTrue(issubclass(Denial, Paper))
        self.assertFalse(isinstance(Paper("no"), Denial))

    def test_equal(self):
        for made in (Paper, Denial):
            for one, other, wanted in (
                (("a",), ("a",), True), (("a", 1), ("a", 1), True), (("a", [1, [2]]), ("a", (1, (2,))), True),
                (("a", 1), ("b", 1), False), (("a", 1), ("a", 2), False), (("a", 1), ("a",), False),
                (("a", 1), ("a", 1, 1), False), (("a", 1, 2), ("a", 2, 1), False), (("a", {1: [2]}), ("a", {1: [2]}), True),
                (("a", {1: [2]}), ("a", {1: [3]}), False), (("a", (1,)), ("a", 1), False), (("a", 1), ("a", True), True),
            ):
                self.assertIs(made(*one) == made(*other), wanted, (one, other))
                self.assertIs(made(*one) != made(*other), not wanted, (one, other))

    def test_unequal_classes(self):
        for parts in ((), (1,), ([1],)):
            self.assertIs(Paper("a", *parts) == Denial("a", *parts), False)
            self.assertIs(Denial("a", *parts) == Paper("a", *parts), False)
        self.assertIs(Other(1) == Paper("other", 1), False)
        self.assertIs(Paper("other", 1) == Other(1), False)
        self.assertIs(Other([1]) == Other((1,)), True)

    def test_unequal_to_other_values(self):
        for value in (*NO_INTEGERS, ("a", 1), ["a", 1], "a", 1):
            self.assertIs(Paper("a", 1) == value, False)
            self.assertIs(value == Paper("a", 1), False)
            self.assertIs(Denial("a", 1) == value, False)

    def test_unequal_to_another_class_of_that_name(self):
        made = type("Paper", (), {})()
        made.word, made.parts = "a", (1,)
        self.assertIs(Paper("a", 1) == made, False)

    def test_what_was_passed_may_be_changed(self):
        inner, outer = [3], [1]
        outer.append((2, inner))
        paper = Paper("note", outer, inner)
        told = fixed(outer)
        inner.append(4)
        outer.clear()
        self.assertEqual(paper.parts, ((1, (2, (3,))), (3,)))
        self.assertEqual(told, (1, (2, (3,))))

    def test_what_was_passed_is_not_changed(self):
        outer = [1, [2, [3]]]
        Paper("note", outer)
        fixed(outer)
        self.assertEqual(outer, [1, [2, [3]]])


if __name__ == "__main__":
    unittest.main()
