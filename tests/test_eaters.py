"""backwardrow.eaters: what an Eater takes and keeps, what it eats, eaters side by side. Texts have a file of their own."""

import itertools
import random
import unittest

from backwardrow.eaters import Eater, beginnings, eaten, side_by_side, takes
from backwardrow.rows import Row
from helpers import HUGE, NO_INTEGERS, NO_LISTS, error_of
from made import eaten_by_hand, eater_parts_by_chance, evens_parts, taken_by_hand, turning_parts, words_over

NAMES = ("letters", "states", "stacks", "rules", "yes")
# Keys and what is done, for two letters, three states and one stack, of which none is right.
BAD_RULES = (
    ((0, 0), (0, [None])), ((0, 0, [None], 0), (0, [None])), ((), (0, [None])), (None, (0, [None])), (0, (0, [None])),
    ("000", (0, [None])), ({0: 0, 1: 1, 2: 2}, (0, [None])), ((3, 0, [None]), (0, [None])), ((-1, 0, [None]), (0, [None])),
    ((0, 2, [None]), (0, [None])), ((0, -1, [None]), (0, [None])), ((True, 0, [None]), (0, [None])), ((0, False, [None]), (0, [None])),
    ((None, 0, [None]), (0, [None])), ((0, None, [None]), (0, [None])), (("0", 0, [None]), (0, [None])), (([0], 0, [None]), (0, [None])),
    ((0, {}, [None]), (0, [None])), ((HUGE, 0, [None]), (0, [None])), ((0, 1.0, [None]), (0, [None])),
    ((0, 0, []), (0, [None])), ((0, 0, [None, None]), (0, [None])), ((0, 0, None), (0, [None])), ((0, 0, 1), (0, [None])),
    ((0, 0, "-"), (0, [None])), ((0, 0, {0: 0}), (0, [None])), ((0, 0, [4]), (0, [None])), ((0, 0, [-1]), (0, [None])),
    ((0, 0, [True]), (0, [None])), ((0, 0, ["0"]), (0, [None])), ((0, 0, [[0]]), (0, [None])), ((0, 0, [HUGE]), (0, [None])),
    ((0, 0, [0.0]), (0, [None])), ((0, 0, ["-"]), (0, [None])), ((0, 0, [{}]), (0, [None])),
    ((0, 0, [0]), (3, [None])), ((0, 0, [0]), (-1, [None])), ((0, 0, [0]), (True, [None])), ((0, 0, [0]), (None, [None])),
    ((0, 0, [0]), ("1", [None])), ((0, 0, [0]), ([1], [None])), ((0, 0, [0]), (HUGE, [None])), ((0, 0, [0]), (1.0, [None])),
    ((0, 0, [0]), (0, [])), ((0, 0, [0]), (0, [None, None])), ((0, 0, [0]), (0, None)), ((0, 0, [0]), (0, "pop")),
    ((0, 0, [0]), (0, {0: "pop"})), ((0, 0, [0]), (0, ("push", 1))), ((0, 0, [0]), (0,)), ((0, 0, [0]), (0, [None], 0)),
    ((0, 0, [0]), 0), ((0, 0, [0]), None), ((0, 0, [0]), "0p"), ((0, 0, [0]), {0: 0, 1: 1}), ((0, 0, [0]), (0, ["push"])),
    ((0, 0, [0]), (0, ["-"])), ((0, 0, [0]), (0, ["Pop"])), ((0, 0, [0]), (0, [""])), ((0, 0, [0]), (0, [0])), ((0, 0, [0]), (0, [True])),
    ((0, 0, [0]), (0, [["pop"]])), ((0, 0, [0]), (0, [()])), ((0, 0, [0]), (0, [("push",)])), ((0, 0, [0]), (0, [("push", 1, 1)])),
    ((0, 0, [0]), (0, [("push", 4)])), ((0, 0, [0]), (0, [("push", -1)])), ((0, 0, [0]), (0, [("push", None)])),
    ((0, 0, [0]), (0, [("push", True)])), ((0, 0, [0]), (0, [("push", "1")])), ((0, 0, [0]), (0, [("pop", 1)])),
    ((0, 0, [0]), (0, [("Push", 1)])), ((0, 0, [0]), (0, [(1, "push")])), ((0, 0, [0]), (0, [(None, 1)])), ((0, 0, [0]), (0, [{}])),
    ((0, 0, [0]), (0, [b"pop"])), ((0, 0, [0]), (0, [{"push": 1}])), ((0, 0, [None]), (0, ["pop"])), ((2, 1, (None,)), (2, ("pop",))),
)
RIGHT_RULES = (
    ((0, 0, [None]), (0, [None])), ([2, 1, (3,)], [2, ("pop",)]), ((1, 1, (0,)), (1, [["push", 3]])), ([0, 1, [None]], (1, [("push", 0)])),
    ((0, 0, [1]), (2, (None,))),
)
BAD = {
    "letters": (0, 7, -1, HUGE, -HUGE, *NO_INTEGERS),
    "states": (0, 13, -1, HUGE, -HUGE, *NO_INTEGERS),
    "stacks": (-1, 3, HUGE, -HUGE, *NO_INTEGERS),
    "rules": (
        *NO_LISTS, {0}, [1], [()], [None], ["ab"], [((0, 0, [0]),)], [((0, 0, [0]), (0, [None]), 1)], [(0, 0, [0], 0, [None])],
        *[[rule] for rule in BAD_RULES], *[[RIGHT_RULES[0], rule] for rule in BAD_RULES[::5]],
        [RIGHT_RULES[0], RIGHT_RULES[0]], [((0, 0, [0]), (0, [None])), ((0, 0, (0,)), (1, ["pop"]))],
        [((0, 0, [0]), (0, [None])), ((0, 1, (0,)), (1, ["pop"])), [[0, 0, [0]], [0, [None]]]],
        {(0, 0, (0,)): None}, {(0, 0, (0,)): (3, [None])}, {(0, 0, ()): (0, [])}, {(0, 0): (0, [None])}, {0: 0}, {"00-": (0, [None])},
        {(0, 0, (None,)): (0, ["pop"])}, {(0, 0, (0,)): (0, [None]), None: (0, [None])}, {(0, 0, (True,)): (0, [None])},
        {(0, 0, 0): (0, [None])}, {frozenset((0, 1, 2)): (0, [None])},
    ),
    "yes": (
        *NO_LISTS, {}, {0: 1}, {0, 1}, range(2), [3], [-1], [0, 3], [0, 0], (1, 2, 1), [True], [0, False], [None], ["0"], [[0]],
        [(0,)], [1.0], [HUGE], [{}],
    ),
}


def right_ones():
    return {"letters": 2, "states": 3, "stacks": 1, "rules": [((0, 0, [None]), (1, [("push", 2)]))], "yes": [1]}


def eaters_by_chance(many):
    """Pairs of an eater and of the parameters that it was made with."""
    parts = [eater_parts_by_chance(seed) for seed in range(many)]
    return [(Eater(*told), told) for told in (*parts, evens_parts(), turning_parts())]


class Parameters(unittest.TestCase):
    def test_each_spoilt_alone(self):
        for name in NAMES:
            for value in BAD[name]:
                parts = right_ones()
                parts[name] = value
                self.assertEqual(error_of(Eater, **parts), ("BadEater", name), (name, value))
                self.assertEqual(error_of(Eater, *[parts[part] for part in NAMES]), ("BadEater", name), (name, value))

    def test_right_rules(self):
        for many in range(len(RIGHT_RULES) + 1):
            for rules in itertools.permutations(RIGHT_RULES, many):
                self.assertEqual(len(Eater(2, 3, 1, rules, [2, 0]).rules), many)
        for name, values in (("letters", (1, 6)), ("states", (2, 12)), ("yes", ([], [0], (1, 0)))):
            for value in values:
                self.assertEqual(error_of(Eater, **{**right_ones(), name: value})[0], "none")

    def test_several_spoilt(self):
        for many in range(2, 6):
            for names in itertools.combinations(NAMES, many):
                for at in range(6):
                    parts = right_ones()
                    for name in names:
                        parts[name] = BAD[name][at * 5 % len(BAD[name])]
                    self.assertEqual(error_of(Eater, **parts), ("BadEater", names[0]), names)

    def test_bounds(self):
        for letters, states, stacks in itertools.product(range(9), range(15), range(-1, 4)):
            wanted = None
            for name, right in (("letters", 1 <= letters <= 6), ("states", 1 <= states <= 12), ("stacks", 0 <= stacks <= 2)):
                wanted = wanted or (None if right else name)
            got = error_of(Eater, letters, states, stacks, [], [])
            self.assertEqual(got[0] if wanted is None else got, "none" if wanted is None else ("BadEater", wanted))

    def test_bounds_of_rules(self):
        for letters, states, stacks in itertools.product((1, 3, 6), (1, 5, 12), (0, 1, 2)):
            tops, moves = [3] * stacks, [("push", 3)] * stacks
            for state, letter, comes in itertools.product((0, states - 1, states), (0, letters - 1, letters), (0, states - 1, states)):
                right = state < states and letter < letters and comes < states
                for rules in ([((state, letter, tops), (comes, moves))], {(state, letter, tuple(tops)): [comes, moves]}):
                    got = error_of(Eater, letters, states, stacks, rules, [states - 1])
                    self.assertEqual(got[0] if right else got, "none" if right else ("BadEater", "rules"))
            for other in range(4):
                for tops, moves in (([None] * other, [None] * stacks), ([None] * stacks, [None] * other), ([0] * other, ["pop"] * other)):
                    got = error_of(Eater, letters, states, stacks, [((0, 0, tops), (0, moves))], [])
                    self.assertEqual(got[0] if other == stacks else got, "none" if other == stacks else ("BadEater", "rules"))
            got = error_of(Eater, letters, states, stacks, [], [states])
            self.assertEqual(got, ("BadEater", "yes"))

    def test_pop_of_empty_stacks(self):
        for tops in itertools.product((None, 0, 3), repeat=2):
            for moves in itertools.product((None, "pop", ("push", 1)), repeat=2):
                right = all(top is not None or move != "pop" for top, move in zip(tops, moves))
                got = error_of(Eater, 1, 1, 2, [((0, 0, tops), (0, moves))], [])
                self.assertEqual(got[0] if right else got, "none" if right else ("BadEater", "rules"))


class Kept(unittest.TestCase):
    def test_ascending(self):
        for eater, (letters, states, stacks, rules, yes) in eaters_by_chance(30):
            wanted = [((key[0], key[1], tuple(key[2])), (done[0], tuple(done[1]))) for key, done in rules]
            wanted = sorted(wanted, key=lambda rule: (rule[0][:2], [-1 if top is None else top for top in rule[0][2]]))
            self.assertEqual((eater.letters, eater.states, eater.stacks), (letters, states, stacks))
            self.assertEqual(eater.rules, tuple(wanted))
            self.assertEqual(repr(eater.rules), repr(tuple(wanted)))
            self.assertEqual(eater.yes, tuple(sorted(yes)))
            self.assertIsInstance(eater.yes, tuple)

    def test_none_is_less_than_every_sign(self):
        tops = list(itertools.product((None, 0, 1, 2, 3), repeat=2))
        rules = [((1, 0, top), (0, [None, None])) for top in reversed(tops)] + [((0, 0, top), (0, [None, None])) for top in tops]
        eater = Eater(1, 2, 2, rules, [])
        self.assertEqual([key for key, _ in eater.rules], [(state, 0, top) for state in (0, 1) for top in tops])

    def test_twelve_states_ascend_as_numbers(self):
        eater = Eater(1, 12, 0, {(state, 0, ()): (state, []) for state in range(11, -1, -1)}, range_down(11))
        self.assertEqual([key[0] for key, _ in eater.rules], list(range(12)))
        self.assertEqual(eater.yes, tuple(range(12)))

    def test_pairs_and_dicts_in_any_order(self):
        for eater, (letters, states, stacks, rules, yes) in eaters_by_chance(30):
            table = {(key[0], key[1], tuple(key[2])): [done[0], list(done[1])] for key, done in rules}
            listed = [[[key[0], key[1], list(key[2])], [done[0], [list(move) if isinstance(move, tuple) else move for move in done[1]]]]
                      for key, done in rules[::-1]]
            for told in (table, listed, tuple(listed), list(table.items()), tuple(rules)):
                again = Eater(letters, states, stacks, told, tuple(yes[::-1]))
                self.assertIs(again == eater, True)
                self.assertEqual(repr(again.rules), repr(eater.rules))

    def test_no_rules_and_no_yes(self):
        for rules in ([], (), {}):
            for yes in ([], ()):
                eater = Eater(1, 1, 0, rules, yes)
                self.assertEqual((eater.rules, eater.yes), ((), ()))
        self.assertEqual(Eater(yes=[], rules=[], stacks=2, states=12, letters=6).stacks, 2)

    def test_what_was_passed_may_be_changed(self):
        push, tops, yes = ["push", 1], [None], [1]
        doing = [1, [push]]
        rules = [[[0, 0, tops], doing]]
        table = {(0, 0, (None,)): [1, [["push", 1]]]}
        eater, other = Eater(1, 2, 1, rules, yes), Eater(1, 2, 1, table, yes)
        push[1], tops[0], doing[0] = 2, 0, 0
        rules.append(7)
        yes.append(0)
        table[(0, 0, (None,))][1].clear()
        table.clear()
        for made in (eater, other):
            self.assertEqual(made.rules, (((0, 0, (None,)), (1, (("push", 1),))),))
            self.assertEqual(made.yes, (1,))
            self.assertEqual(eaten(made, [0]), (1, ((1,),)))
            self.assertIs(takes(made, [0]), True)

    def test_what_was_passed_is_not_changed(self):
        parts = evens_parts()
        shown = repr(parts)
        eater = Eater(*parts)
        word = [0, 0, 1, 1]
        for call in (eaten, takes, beginnings):
            call(eater, word)
        self.assertEqual((repr(parts), word), (shown, [0, 0, 1, 1]))

    def test_equal(self):
        letters, states, stacks, rules, yes = evens_parts()
        eater = Eater(letters, states, stacks, rules, yes)
        self.assertIs(eater == Eater(letters, states, stacks, dict(rules), yes), True)
        self.assertIs(eater != Eater(letters, states, stacks, rules[::-1], yes), False)
        changed = [((0, 0, (None,)), (1, (("push", 0),))), *rules[1:]]
        for other in (Eater(3, states, stacks, rules, yes), Eater(letters, 4, stacks, rules, yes), Eater(letters, states, stacks, rules[1:], yes),
                      Eater(letters, states, stacks, rules, []), Eater(letters, states, stacks, rules, [1, 2]),
                      Eater(letters, states, stacks, changed, yes)):
            self.assertIs(eater == other, False)
            self.assertIs(eater != other, True)
        self.assertIs(Eater(1, 1, 0, [], []) == Eater(1, 1, 1, [], []), False)
        for value in (None, 1, "x", str(eater), evens_parts(), [], object(), Row()):
            self.assertIs(eater == value, False)
            self.assertIs(value == eater, False)

    def test_an_eater_is_no_row(self):
        self.assertNotIsInstance(Eater(*evens_parts()), Row)


def range_down(last):
    return [number for number in range(last, -1, -1)]


class Eats(unittest.TestCase):
    def check(self, eater, parts, word):
        held = eaten_by_hand(parts, word)
        got = eaten(eater, word)
        self.assertEqual(got, held, word)
        self.assertEqual(repr(got), repr(held))
        self.assertIs(takes(eater, word), taken_by_hand(parts, word))

    def test_all_short_words(self):
        for eater, parts in eaters_by_chance(60):
            for word in words_over(eater.letters, 4):
                self.check(eater, parts, word)
                wanted = tuple(taken_by_hand(parts, word[:many]) for many in range(1, len(word) + 1))
                self.assertEqual(beginnings(eater, word), wanted)
                self.assertEqual(beginnings(word=list(word), eater=eater), wanted)
                self.assertEqual(eaten(word=list(word), eater=eater), eaten(eater, word))
                self.assertIs(takes(word=list(word), eater=eater), wanted[-1])
                self.assertTrue(all(told in (True, False) and isinstance(told, bool) for told in beginnings(eater, word)))

    def test_longer_words_by_chance(self):
        chance = random.Random(3)
        for eater, parts in eaters_by_chance(60):
            word = [chance.randrange(eater.letters) for _ in range(40)]
            for many in (7, 20, 40):
                self.check(eater, parts, word[:many])
            self.assertEqual(beginnings(eater, word), tuple(taken_by_hand(parts, word[:many]) for many in range(1, 41)))

    def test_long_runs_of_pushes_and_pops(self):
        evens = Eater(*evens_parts())
        for many in (1, 2, 30, 100):
            for more in (many - 1, many, many + 1):
                word = ([0] * many + [1] * more)[:200]
                self.check(evens, evens_parts(), word)
                wanted = tuple(at == 2 * many - 1 for at in range(len(word)))
                self.assertEqual(beginnings(evens, word), wanted)
        turning = Eater(*turning_parts())
        for word in ([0] * 40 + [1] * 40 + [2] * 40, [0, 0, 1] * 40 + [2] * 39, [0] * 200, [0, 1, 2] * 60 + [1]):
            self.check(turning, turning_parts(), word)
            wanted = tuple(taken_by_hand(turning_parts(), word[:many]) for many in range(1, len(word) + 1))
            self.assertEqual(beginnings(turning, word), wanted)
        self.assertEqual(eaten(turning, [0] * 6), (2, ((1, 0, 3, 2, 1, 0), ())))
        self.assertEqual(eaten(turning, [0] * 6 + [1] * 6), (0, ((), (0, 1, 2, 3, 0, 1))))

    def test_stuck_is_stuck_for_ever(self):
        eater = Eater(2, 1, 0, [((0, 0, []), (0, []))], [0])
        self.assertEqual(beginnings(eater, [0, 0, 1, 0, 0]), (True, True, False, False, False))
        self.assertIsNone(eaten(eater, [0, 1]))
        self.assertIsNone(eaten(eater, [0, 1, 0]))
        self.assertIs(takes(eater, [1, 0]), False)
        self.assertEqual(eaten(eater, [0]), (0, ()))

    def test_refused(self):
        eater = Eater(*evens_parts())
        for call in (eaten, takes, beginnings):
            for value in (*NO_INTEGERS, 0, "eater", str(eater), evens_parts(), Row(), Eater):
                for word in ([0], [2], None):
                    self.assertEqual(error_of(call, value, word), ("BadEater", "eater"), value)
            for word in (*NO_LISTS, [], (), {}, {0: 0}, range(1), [2], [0, -1], [0, True], [None], [[0]], ["0"], [HUGE], [1.0], [0] * 201):
                self.assertEqual(error_of(call, eater, word), ("BadWord", "word"), word)
        self.assertIs(takes(eater, [0] * 100 + [1] * 100), True)


class SideBySide(unittest.TestCase):
    def pairs(self):
        found = [(Eater(*parts), parts) for parts in [eater_parts_by_chance(seed) for seed in range(90)]]
        pairs = []
        for first, second in itertools.product(found, repeat=2):
            one, other = first[0], second[0]
            if one.letters == other.letters and one.states * other.states <= 12 and one.stacks + other.stacks <= 2:
                pairs.append((first, second))
        return pairs[::max(1, len(pairs) // 150)]

    def test_takes_what_both_take(self):
        kinds = set()
        for (one, first), (other, second) in self.pairs():
            both = side_by_side(one, other)
            kinds.add((one.stacks, other.stacks))
            for word in words_over(one.letters, 4):
                self.assertIs(takes(both, word), taken_by_hand(first, word) and taken_by_hand(second, word))
                held, beside = eaten_by_hand(first, word), eaten_by_hand(second, word)
                if held is None or beside is None:
                    self.assertIsNone(eaten(both, word))
                else:
                    self.assertEqual(eaten(both, word), (held[0] * other.states + beside[0], held[1] + beside[1]))
        self.assertEqual(kinds, {(one, other) for one in range(3) for other in range(3 - one)})

    def test_states_stacks_rules_and_yes(self):
        for (one, first), (other, second) in self.pairs():
            both = side_by_side(other=other, one=one)
            self.assertIsInstance(both, Eater)
            self.assertEqual((both.letters, both.states, both.stacks), (one.letters, one.states * other.states, one.stacks + other.stacks))
            many = other.states
            self.assertEqual(both.yes, tuple(sorted(state * many + beside for state in first[4] for beside in second[4])))
            wanted = {}
            for (key, done), (more, further) in itertools.product(one.rules, other.rules):
                if key[1] == more[1]:
                    wanted[(key[0] * many + more[0], key[1], key[2] + more[2])] = (done[0] * many + further[0], done[1] + further[1])
            self.assertEqual(dict(both.rules), wanted)
            self.assertEqual(len(both.rules), len(wanted))
            self.assertIs(Eater.read(str(both)) == both, True)

    def test_refused_in_order(self):
        def made(letters, states, stacks):
            return Eater(letters, states, stacks, [], [])
        for value in (*NO_INTEGERS, 0, "eater", evens_parts(), Row()):
            self.assertEqual(error_of(side_by_side, value, made(1, 1, 1)), ("BadEater", "one"), value)
            self.assertEqual(error_of(side_by_side, value, value), ("BadEater", "one"), value)
            self.assertEqual(error_of(side_by_side, made(1, 1, 1), value), ("BadEater", "other"), value)
        for one, other, wanted in (
            (made(1, 12, 2), made(2, 12, 2), ("Misfit", "letters")), (made(2, 1, 0), made(1, 1, 0), ("Misfit", "letters")),
            (made(1, 12, 2), made(1, 12, 2), ("TooMany", "states", 12)), (made(2, 4, 0), made(2, 4, 0), ("TooMany", "states", 12)),
            (made(2, 7, 0), made(2, 2, 0), ("TooMany", "states", 12)), (made(2, 1, 2), made(2, 1, 1), ("TooMany", "stacks", 2)),
            (made(2, 3, 1), made(2, 4, 2), ("TooMany", "stacks", 2)), (made(2, 2, 2), made(2, 7, 1), ("TooMany", "states", 12)),
        ):
            self.assertEqual(error_of(side_by_side, one, other), wanted)
            self.assertEqual(error_of(side_by_side, other, one), wanted)
        for one, other in ((made(1, 12, 2), made(1, 1, 0)), (made(6, 3, 1), made(6, 4, 1)), (made(2, 6, 0), made(2, 2, 2))):
            self.assertEqual(side_by_side(one, other).states, 12)


if __name__ == "__main__":
    unittest.main()
