"""Points 18 and 19: least cores of rules and beside a value, and possible values."""

import unittest

from clashproved.cores import least_core, possible_values, why_not
from clashproved.errors import BadRule, ClashError, NoSuchName
from clashproved.spaces import Space
from tests.brute import Brute
from tests.helpers import every_assignment, strange_values
from tests.samples import BAD_RULES, DIFFERENT, EQUAL, NAMES, PAIR, RULES, SIX, SIX_RULES, SPACE, drawn, grid

A0, A1, B0, B1 = [("in", name, (value,)) for name in "ab" for value in (0, 1)]


def parities(many):
    """Counts around a ring, all but one of them even, and behind them one that they do not need."""
    names = NAMES[:many]
    ring = [("count", (names[at], names[(at + 1) % many]), (1,), (0, 2)) for at in range(many - 1)]
    return tuple(ring + [("count", (names[-1], names[0]), (1,), (1,)), ("count", tuple(names), (2,), (0, 1))])


class CoreTests(unittest.TestCase):
    def assert_core(self, brute, rules):
        """Compare with leaving out one rule after the other, look at what the point says of it, and tell it."""
        found = least_core(brute.space, rules)
        self.assertEqual(found, brute.core(rules), rules)
        if found is not None:
            self.assertIs(type(found), tuple)
            kept = [rules[index] for index in found]
            self.assertEqual(brute.of_all(kept), 0)
            for at in range(len(kept)):
                self.assertNotEqual(brute.of_all(kept[:at] + kept[at + 1:]), 0)
        return found

    def assert_why_not(self, brute, rules, name, value):
        found = why_not(brute.space, rules, name, value)
        self.assertEqual(found, brute.core(rules, (("in", name, (value,)),)), (rules, name, value))
        return found

    def assert_possible(self, brute, rules):
        found = possible_values(brute.space, rules)
        rows = brute.solutions(rules)
        told = tuple(tuple(sorted({row[at] for row in rows})) for at in range(len(brute.space.names)))
        self.assertEqual(found, told, rules)
        self.assertIs(type(found), tuple)
        self.assertEqual([type(values) for values in found], [tuple] * len(told))
        return found


class LeastCores(CoreTests):
    def test_small_cases(self):
        cases = [
            ((), None),
            ((DIFFERENT,), None),
            ((DIFFERENT, EQUAL), (0, 1)),
            ((EQUAL, DIFFERENT), (0, 1)),
            ((("or", ()),), (0,)),
            ((("in", "a", (5,)),), (0,)),
            ((A0, A1), (0, 1)),
            ((A0, DIFFERENT, A1, EQUAL), (1, 3)),
            ((DIFFERENT, A0, EQUAL, A1), (1, 3)),
            ((DIFFERENT, EQUAL, A0, A1), (2, 3)),
            ((A0, B0, DIFFERENT, B1, A1), (2, 3, 4)),
            ((A0, B0, EQUAL, B1, A1), (1, 3)),
            ((A0, B0, DIFFERENT, A1), (0, 3)),
            ((A0, B0, DIFFERENT), (0, 1, 2)),
            ((("or", ()), DIFFERENT, EQUAL), (1, 2)),
            ((DIFFERENT, EQUAL, ("or", ())), (2,)),
        ]
        for rules, core in cases:
            with self.subTest(rules=rules):
                self.assertEqual(self.assert_core(Brute(PAIR), rules), core)

    def test_rules_that_stand_twice(self):
        for rules, core in (
            ((DIFFERENT, DIFFERENT), None),
            ((DIFFERENT, EQUAL, DIFFERENT), (1, 2)),
            ((DIFFERENT, EQUAL, EQUAL, DIFFERENT), (2, 3)),
            ((DIFFERENT, DIFFERENT, EQUAL, EQUAL), (1, 3)),
            ((("or", ()), ("or", ())), (1,)),
            ((A0, B1, EQUAL, A0, EQUAL, B1), (3, 4, 5)),
        ):
            self.assertEqual(self.assert_core(Brute(PAIR), rules), core)

    def test_a_rule_that_is_never_satisfied(self):
        brute = Brute(SPACE)
        never = [
            ("or", ()), ("in", "a", (2, 15)), ("sum", ((2, "a"), (2, "c")), "=", 3), ("if", ("a", (0, 1)), ("or", ())),
        ]
        for rule in never:
            for others in ((), (("in", "c", (1,)),), (("in", "c", (1,)), ("different", ("a", "c")))):
                self.assertEqual(self.assert_core(brute, others + (rule,)), (len(others),))
                self.assertEqual(self.assert_core(brute, (rule,) + others), (0,))
                self.assertEqual(self.assert_core(brute, (rule,) + others + (rule,)), (len(others) + 1,))

    def test_all_rules_are_needed(self):
        for many in (2, 3, 4):
            space = grid(many, (0, 1))
            rules = tuple(("or", tuple((name, (value,)) for name, value in zip(NAMES, row)))
                          for row in every_assignment(space))
            self.assertEqual(self.assert_core(Brute(space), rules), tuple(range(2 ** many)))
            self.assertIsNone(self.assert_core(Brute(space), rules[1:]))

    def test_the_last_ones_of_several_cores(self):
        space = grid(3, (0, 1))
        pairs = (("different", ("a", "b")), ("different", ("b", "c")), ("different", ("a", "c")))
        self.assertEqual(self.assert_core(Brute(space), pairs), (0, 1, 2))
        self.assertEqual(self.assert_core(Brute(space), pairs + (("equal", ("a", "b")),)), (0, 3))
        self.assertEqual(self.assert_core(Brute(space), (("equal", ("a", "b")),) + pairs), (1, 2, 3))
        self.assertEqual(self.assert_core(Brute(space), (("different", tuple("abc")),) + pairs), (1, 2, 3))
        self.assertEqual(self.assert_core(Brute(space), pairs + (("different", tuple("abc")),)), (3,))

    def test_parities(self):
        for many in (3, 4, 5):
            brute = Brute(grid(many, (0, 1, 2)))
            rules = parities(many)
            self.assertEqual(self.assert_core(brute, rules), tuple(range(many)))
            self.assertEqual(self.assert_core(brute, rules[::-1]), tuple(range(1, many + 1)))

    def test_drawn_rules(self):
        for space, rules, many, most in ((SPACE, RULES, 500, 8), (SPACE, RULES, 30, 30), (SIX, SIX_RULES, 60, 10)):
            brute = Brute(space)
            found = [self.assert_core(brute, row) for row, _ in drawn(space, rules, many, most)]
            self.assertIn(None, found)
            self.assertTrue(any(core is not None and len(core) > 2 for core in found))

    def test_something_that_is_no_rule(self):
        for bad in BAD_RULES:
            for rules in ((bad,), (DIFFERENT, bad), (("or", ()), bad)):
                with self.assertRaises(BadRule):
                    least_core(PAIR, rules)


class WhyNot(CoreTests):
    def test_small_cases(self):
        cases = [
            ((), "a", 0, None),
            ((), "a", 5, ()),
            ((DIFFERENT,), "a", 1, None),
            ((A0,), "a", 0, None),
            ((A0,), "a", 1, (0,)),
            ((A0, DIFFERENT), "b", 0, (0, 1)),
            ((A0, DIFFERENT), "b", 1, None),
            ((A0, DIFFERENT, B1), "b", 0, (2,)),
            ((B1, A0, DIFFERENT), "b", 0, (1, 2)),
            ((A0, B0, DIFFERENT), "a", 0, (1, 2)),
            ((DIFFERENT, EQUAL), "a", 0, (0, 1)),
            ((A0, A1), "b", 0, (0, 1)),
            ((A0, A1), "a", 0, (1,)),
            ((A0, A1), "a", 1, (0,)),
            ((A0, A0), "a", 1, (1,)),
            ((("or", ()),), "a", 1, (0,)),
            ((("or", ()), A0), "a", 1, (1,)),
            ((A0, ("or", ())), "a", 1, (1,)),
            ((DIFFERENT, EQUAL), "b", 7, ()),
        ]
        for rules, name, value, core in cases:
            with self.subTest(rules=rules, name=name, value=value):
                self.assertEqual(self.assert_why_not(Brute(PAIR), rules, name, value), core)

    def test_each_value_of_each_variable(self):
        for space, all_rules, many, most in ((SPACE, RULES, 120, 6), (SIX, SIX_RULES, 12, 6)):
            brute = Brute(space)
            found = []
            for rules, _ in drawn(space, all_rules, many, most):
                possible = possible_values(space, rules)
                for (name, values), told in zip(space.variables, possible):
                    for value in values:
                        core = self.assert_why_not(brute, rules, name, value)
                        self.assertEqual(core is None, value in told)
                        found.append(core)
            self.assertIn(None, found)
            self.assertTrue(any(core is not None and len(core) > 1 for core in found))

    def test_values_that_the_variable_has_not(self):
        for value in (2, 5, 15, 16, 100, -1):
            for rules in ((), (DIFFERENT,), (DIFFERENT, EQUAL), (("or", ()),)):
                self.assertEqual(why_not(PAIR, rules, "a", value), ())

    def test_a_name_that_there_is_not(self):
        for name in strange_values() + ["c", "A", "a ", ("a",), 0]:
            for rules in ((), (DIFFERENT,), (DIFFERENT, EQUAL), (("or", ()),)):
                for value in (0, 1, 7):
                    with self.assertRaises(ClashError) as caught:
                        why_not(PAIR, rules, name, value)
                    self.assertIs(type(caught.exception), NoSuchName)

    def test_something_that_is_no_rule(self):
        for bad in BAD_RULES:
            with self.assertRaises(BadRule):
                why_not(PAIR, (DIFFERENT, bad), "a", 0)


class PossibleValues(CoreTests):
    def test_small_cases(self):
        cases = [
            ((), ((0, 1), (0, 1))),
            ((DIFFERENT,), ((0, 1), (0, 1))),
            ((A0,), ((0,), (0, 1))),
            ((A0, DIFFERENT), ((0,), (1,))),
            ((DIFFERENT, EQUAL), ((), ())),
            ((("or", ()),), ((), ())),
            ((("in", "b", (1, 7)),), ((0, 1), (1,))),
            ((("sum", ((1, "a"), (1, "b")), ">=", 1),), ((0, 1), (0, 1))),
        ]
        for rules, values in cases:
            with self.subTest(rules=rules):
                self.assertEqual(self.assert_possible(Brute(PAIR), rules), values)

    def test_without_rules_all_values(self):
        for space in (PAIR, SPACE, SIX, Space((("z", (4,)),))):
            self.assertEqual(possible_values(space, ()), tuple(values for _, values in space.variables))

    def test_each_rule_alone(self):
        for space, rules in ((SPACE, RULES), (SIX, SIX_RULES)):
            brute = Brute(space)
            for rule in rules:
                self.assert_possible(brute, (rule,))

    def test_drawn_rules(self):
        for space, rules, many, most in ((SPACE, RULES, 300, 6), (SIX, SIX_RULES, 40, 5)):
            brute = Brute(space)
            found = [self.assert_possible(brute, row) for row, _ in drawn(space, rules, many, most)]
            empty = tuple(() for _ in space.names)
            self.assertIn(empty, found)
            self.assertGreater(len(set(found)), many // 10)

    def test_a_value_that_only_together_the_rules_leave_out(self):
        space = grid(3, (0, 1))
        rules = (("sum", ((1, "a"), (1, "b"), (1, "c")), "=", 2), ("count", ("a", "b"), (1,), (0, 1)))
        self.assertEqual(self.assert_possible(Brute(space), rules), ((0, 1), (0, 1), (1,)))

    def test_something_that_is_no_rule(self):
        for bad in BAD_RULES:
            with self.assertRaises(BadRule):
                possible_values(PAIR, (DIFFERENT, bad))


if __name__ == "__main__":
    unittest.main()
