"""Points 11 to 13: the first solution by an order, or a refutation, of which each step is looked at."""

import unittest

from clashproved.clauses import is_clause, resolvent
from clashproved.errors import BadOrder, BadRule, ClashError
from clashproved.narrowing import is_implied
from clashproved.search import solve
from clashproved.spaces import Space, all_assignments
from tests.brute import Brute
from tests.helpers import every_assignment, every_order, sorted_by, strange_values
from tests.samples import (
    BAD_ORDERS, BAD_RULES, DIFFERENT, EQUAL, EXAMPLE, NAMES, ORDERS, PAIR, RULES, SIX, SIX_RULES, SPACE, drawn, grid,
)


def pairs_differ(many):
    return tuple(("different", (NAMES[one], NAMES[two])) for two in range(many) for one in range(two))


def chain_of_sums(relation, number, many):
    """Each variable, less the one ahead of it, and the first one, less the last one."""
    return tuple(
        ("sum", ((1, NAMES[(at + 1) % many]), (-1, NAMES[at])), relation, number) for at in range(many)
    )


class SearchTests(unittest.TestCase):
    def assert_solved(self, brute, rules, order=()):
        """Compare with going through all assignments by the order, and look at each step of a refutation."""
        found = solve(brute.space, rules, order)
        first = brute.first(brute.of_all(rules), sorted_by(brute.space, order))
        if first is not None:
            self.assertEqual(found, ("solution", first), (rules, order))
            self.assertIs(brute.space.is_assignment(found[1]), True)
        else:
            self.assertIs(type(found), tuple)
            self.assertEqual(len(found), 2)
            self.assertEqual(found[0], "refuted", (rules, order))
            self.assertIsNone(brute.fault_of(rules, found[1]), (rules, order, found))
        return found[0]

    def assert_refuted(self, space, rules, order=()):
        self.assertEqual(self.assert_solved(Brute(space), rules, order), "refuted")


class FirstSolutions(SearchTests):
    def test_without_rules_the_first_of_all_assignments(self):
        for space in (SPACE, PAIR, Space((("z", (4,)),)), Space((("q", (0, 9)), ("b", (3, 4, 5)), ("a", (1,))))):
            for order in every_order(space):
                first = all_assignments(space, order)[0]
                self.assertEqual(solve(space, (), order), ("solution", first))
                self.assertEqual(first, sorted_by(space, order)[0])
        self.assertEqual(solve(SIX, (), (("f", "down"),)), ("solution", (0, 1, 15, 0, 2, 0)))

    def test_the_order_may_be_left_out(self):
        self.assertEqual(solve(PAIR, (DIFFERENT,)), ("solution", (0, 1)))
        self.assertEqual(solve(SPACE, ()), ("solution", (0, 0, 1)))

    def test_small_cases(self):
        cases = [
            ((DIFFERENT,), (("a", "down"),), (1, 0)),
            ((DIFFERENT,), (("b", "up"),), (1, 0)),
            ((DIFFERENT,), (("b", "down"),), (0, 1)),
            ((EQUAL,), (), (0, 0)),
            ((EQUAL,), (("b", "down"),), (1, 1)),
            ((EQUAL, ("in", "a", (1, 7))), (), (1, 1)),
            ((("if", ("a", (0,)), ("in", "b", (1,))),), (("b", "up"),), (1, 0)),
        ]
        for rules, order, row in cases:
            with self.subTest(rules=rules, order=order):
                self.assertEqual(solve(PAIR, rules, order), ("solution", row))

    def test_by_keyword(self):
        self.assertEqual(solve(space=PAIR, rules=(DIFFERENT,), order=(("a", "down"),)), ("solution", (1, 0)))

    def test_each_rule_alone(self):
        brute = Brute(SPACE)
        for rule in RULES:
            for order in ORDERS:
                self.assert_solved(brute, (rule,), order)

    def test_each_rule_of_six_variables_alone(self):
        brute = Brute(SIX)
        for rule in SIX_RULES:
            self.assert_solved(brute, (rule,), (("e", "down"), ("b", "down"), ("d", "up")))

    def test_two_rules_by_each_order(self):
        brute = Brute(SPACE)
        for rules in (
            (("sum", ((1, "c"), (1, "b")), "=", 4), ("different", ("a", "c"))),
            (("element", "c", ("b", "c", "a"), "c"), ("or", (("a", (1,)), ("b", (15,))))),
            (("count", ("a", "b", "c"), (1, 2), (0, 2)), ("if", ("c", (1, 2)), ("in", "a", (0,)))),
        ):
            for order in every_order(SPACE):
                self.assertEqual(self.assert_solved(brute, rules, order), "solution")

    def test_a_rule_twice(self):
        self.assertEqual(solve(PAIR, (DIFFERENT, DIFFERENT)), ("solution", (0, 1)))

    def test_each_assignment_may_be_the_only_one(self):
        for c, a, b in every_assignment(SPACE):
            rules = (("table", ("b", "a"), ((b, a),)), ("in", "c", (c,)))
            for order in ORDERS:
                self.assertEqual(solve(SPACE, rules, order), ("solution", (c, a, b)))

    def test_the_greatest_space(self):
        space = grid(6, (0, 1, 2, 3, 4, 5))
        rules = (
            ("different", tuple(NAMES)),
            ("sum", tuple(zip((1, 2, 3, 4, 5, 6), NAMES)), "=", 50),
            ("sum", ((1, "a"), (-1, "f")), ">=", 2),
        )
        brute = Brute(space)
        for order in ((), (("d", "down"), ("a", "up"))):
            self.assertEqual(self.assert_solved(brute, rules, order), "solution")


class Refutations(SearchTests):
    def test_the_rules_of_point_13(self):
        for order in every_order(PAIR):
            self.assert_refuted(PAIR, (DIFFERENT, EQUAL), order)
            self.assert_refuted(PAIR, (EQUAL, DIFFERENT), order)

    def test_a_rule_that_is_never_satisfied_alone(self):
        never = [
            ("or", ()),
            ("in", "a", (2, 15)),
            ("or", (("a", (5,)), ("b", (0, 3)))),
            ("sum", ((2, "a"), (2, "c")), "=", 3),
            ("sum", ((1, "a"), (1, "c")), ">=", 5),
            ("table", ("a", "b"), ((2, 2), (0, 0))),
            ("count", ("a", "b"), (7,), (1, 2)),
            ("if", ("a", (0, 1)), ("or", ())),
        ]
        for rule in never:
            for order in ORDERS:
                self.assert_refuted(SPACE, (rule,), order)
                self.assert_refuted(SPACE, (("in", "c", (1, 2)), rule), order)
                self.assert_refuted(SPACE, (rule, ("in", "c", (1, 2)), rule), order)

    def test_a_space_of_one_value(self):
        space = Space((("a", (3,)),))
        self.assertEqual(solve(space, (("in", "a", (3,)),)), ("solution", (3,)))
        self.assert_refuted(space, (("in", "a", (3,)), ("in", "a", (4,))))

    def test_an_unsatisfiable_rule_behind_others(self):
        self.assert_refuted(PAIR, (DIFFERENT, ("or", ())))

    def test_more_variables_than_values(self):
        for many in (3, 4, 5):
            space = grid(many, tuple(range(many - 1)))
            for order in ((), (("c", "down"), ("a", "up"))):
                self.assert_refuted(space, pairs_differ(many), order)
        self.assert_refuted(grid(6, (0, 1, 2, 3)), pairs_differ(6))
        self.assert_refuted(grid(6, (0, 1, 2, 3, 4)), (("different", tuple(NAMES)),))

    def test_a_variable_that_matters_for_one_of_its_values_only(self):
        space = grid(4, (0, 1))
        rules = (("different", ("b", "c")), ("different", ("c", "d")), ("different", ("b", "d")))
        for value in (0, 1):
            linked = rules + (("if", ("a", (value,)), ("in", "b", (0,))),)
            for order in every_order(space)[::5]:
                self.assert_refuted(space, linked, order)
                self.assert_refuted(space, linked[::-1], order)

    def test_sums_around_a_ring(self):
        self.assert_refuted(grid(5, (0, 1, 2, 3)), chain_of_sums(">=", 1, 5))
        self.assert_refuted(grid(4, (0, 1, 2, 3)), chain_of_sums("=", 1, 4), (("b", "down"),))
        self.assert_refuted(grid(3, (0, 1)), chain_of_sums("!=", 0, 3), (("c", "down"),))

    def test_counts_that_are_even_and_odd(self):
        names = tuple(NAMES[:4])
        rules = (
            ("count", ("a", "b"), (1, 3), (0, 2)), ("count", ("b", "c"), (1, 3), (0, 2)),
            ("count", ("c", "d"), (1, 3), (0, 2)), ("count", ("d", "a"), (1, 3), (1,)),
        )
        self.assert_refuted(grid(4, (0, 1, 2, 3)), rules)
        self.assert_refuted(grid(4, (0, 1, 2, 3)), rules + (("count", names, (0,), (1, 2)),), (("d", "down"),))

    def test_all_literals_over_three_variables(self):
        space = grid(3, (0, 1))
        rules = tuple(("or", tuple((name, (value,)) for name, value in zip("abc", row)))
                      for row in every_assignment(space))
        for order in every_order(space):
            self.assert_refuted(space, rules, order)
        for at in range(len(rules)):
            self.assertEqual(self.assert_solved(Brute(space), rules[:at] + rules[at + 1:]), "solution")

    def test_each_kind_takes_part_in_a_refutation(self):
        cases = [
            ("in", "a", (1,)),
            ("sum", ((1, "a"), (-1, "b")), "=", 0),
            ("different", ("a", "c")),
            ("equal", ("a", "b")),
            ("table", ("a", "b"), ((0, 0), (1, 1))),
            ("count", ("a", "b"), (1,), (0, 2)),
            ("element", "a", ("c", "b"), "b"),
            ("or", (("a", (1,)), ("b", (0,)))),
            ("if", ("a", (0,)), ("equal", ("a", "b"))),
        ]
        space = grid(3, (0, 1))
        for rule in cases:
            rows = Brute(space).of_rule(rule)
            others = tuple(
                ("or", tuple((name, (1 - value,)) for name, value in zip("abc", row)))
                for at, row in enumerate(every_assignment(space)) if rows >> at & 1
            )
            for order in ((), (("c", "down"), ("b", "up"))):
                self.assert_refuted(space, others + (rule,), order)
                self.assert_refuted(space, (rule,) + others, order)
                self.assertEqual(self.assert_solved(Brute(space), others, order), "solution")

    def test_rules_that_leave_each_other_little(self):
        space = grid(6, (0, 1, 2, 3, 4, 5))
        rules = (
            ("sum", tuple(zip((2, 4, -2, 6, 8, -4), NAMES)), "=", 10),
            ("sum", tuple(zip((1, 2, -1, 3, 4, -2), NAMES)), "!=", 5),
        )
        self.assert_refuted(space, rules)


class DrawnRules(SearchTests):
    def assert_drawn(self, space, rules, many, most):
        brute = Brute(space)
        found = [self.assert_solved(brute, *row) for row in drawn(space, rules, many, most)]
        for kind in ("solution", "refuted"):
            self.assertGreater(found.count(kind), many // 10)

    def test_rules_over_three_variables(self):
        self.assert_drawn(SPACE, RULES, 600, 6)

    def test_rules_over_six_variables(self):
        self.assert_drawn(SIX, SIX_RULES, 60, 8)


class Errors(unittest.TestCase):
    def test_something_that_is_no_rule(self):
        for bad in BAD_RULES + strange_values():
            for rules in ((bad,), (DIFFERENT, bad), (bad, DIFFERENT), (("or", ()), bad), (DIFFERENT, EQUAL, bad)):
                with self.assertRaises(BadRule, msg=repr(bad)):
                    solve(PAIR, rules)
                with self.assertRaises(BadRule, msg=repr(bad)):
                    solve(PAIR, rules, (("b", "down"),))

    def test_something_that_is_no_order(self):
        for bad in BAD_ORDERS + strange_values():
            for rules in ((), (DIFFERENT,), (DIFFERENT, EQUAL), (("or", ()),)):
                with self.assertRaises(BadOrder, msg=repr(bad)):
                    solve(PAIR, rules, bad)

    def test_no_rule_and_no_order_at_once(self):
        for rule in BAD_RULES:
            for order in BAD_ORDERS:
                for rules in ((rule,), (DIFFERENT, rule), (("or", ()), rule)):
                    with self.assertRaises(BadRule):
                        solve(PAIR, rules, order)

    def test_the_errors_are_told_apart(self):
        with self.assertRaises(ClashError) as caught:
            solve(PAIR, (DIFFERENT,), (("c", "up"),))
        self.assertIs(type(caught.exception), BadOrder)
        with self.assertRaises(ClashError) as caught:
            solve(PAIR, (("in", "c", (0,)),), (("c", "up"),))
        self.assertIs(type(caught.exception), BadRule)

    def test_a_rule_of_another_space(self):
        with self.assertRaises(BadRule):
            solve(SPACE, (("in", "d", (0,)),))
        self.assertEqual(solve(SIX, (("in", "d", (2,)),))[1][0], 2)


class TheExampleOfPoint13(unittest.TestCase):
    RULES, STEPS = (DIFFERENT, EQUAL), EXAMPLE

    def test_its_steps_are_a_refutation(self):
        self.assertIsNone(Brute(PAIR).fault_of(self.RULES, self.STEPS))

    def test_its_steps_hold_by_the_functions_of_the_program(self):
        for number, step in enumerate(self.STEPS):
            self.assertIs(is_clause(PAIR, step[-1]), True)
            if step[0] == "rule":
                self.assertIs(is_implied(PAIR, self.RULES[step[1]], step[2]), True)
                self.assertIs(is_implied(PAIR, self.RULES[1 - step[1]], step[2]), False)
            else:
                clause = self.STEPS[step[1]][-1]
                for name, other in step[2]:
                    self.assertLess(other, number)
                    clause = resolvent(PAIR, clause, self.STEPS[other][-1], name)
                self.assertEqual(clause, step[3])
        self.assertEqual(self.STEPS[-1][-1], ())

    def test_the_judge_of_the_tests_finds_faults(self):
        # The tests above rely on this judge, so that it is shown to refuse what is wrong in just one place.
        wrong = {
            0: [("rule", 0, (("a", (1,)), ("b", (0,)))), ("rule", 2, (("a", (1,)), ("b", (0,)))),
                ("rule", -1, (("a", (1,)), ("b", (0,)))), ("rule", 1, (("b", (0,)), ("a", (1,)))),
                ("rule", 1, (("a", (1,)),)), ("rule", 1, ())],
            2: [("resolve", 0, (("b", 1),), (("a", (0,)),)), ("resolve", 0, (("a", 1),), (("a", (1,)),)),
                ("resolve", 0, (("b", 2),), (("a", (1,)),)), ("resolve", 3, (("b", 1),), (("a", (1,)),)),
                ("resolve", -6, (("b", 1),), (("a", (1,)),)), ("resolve", 0, (), (("a", (1,)),)),
                ("resolve", 0, [("b", 1)], (("a", (1,)),)), ("resolve", 0, (("z", 1),), (("a", (1,)),))],
            5: [("resolve", 3, (("b", 4),), (("a", (0,)),)), ("resolve", 3, (("a", 2), ("b", 4)), (("a", (0,)),)),
                ("resolve", 3, (("b", 4), ("a", 5)), ())],
        }
        for at, steps in wrong.items():
            for step in steps:
                told = self.STEPS[:at] + (step,) + self.STEPS[at + 1:]
                self.assertIsNotNone(Brute(PAIR).fault_of(self.RULES, told), step)
        for told in ((), self.STEPS[:-1], list(self.STEPS), self.STEPS[1:]):
            self.assertIsNotNone(Brute(PAIR).fault_of(self.RULES, told))


if __name__ == "__main__":
    unittest.main()
