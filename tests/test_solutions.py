"""Point 20 and the interface: the first solutions by an order, and the best ones."""

import unittest

from clashproved.cores import best, solutions
from clashproved.errors import BadOrder, BadRule, ClashError
from clashproved.search import solve
from clashproved.spaces import Space, all_assignments
from tests.helpers import every_order, strange_values
from tests.judges import Judge
from tests.samples import (
    BAD_ORDERS, BAD_RULES, DIFFERENT, DIRECTIONS, EQUAL, NAMES, ORDERS, PAIR, RULES, SIX, SIX_RULES, SIX_TERMS, SPACE,
    TERMS, drawn, grid,
)


class FirstSolutions(unittest.TestCase):
    def assert_listed(self, told, rules, order):
        """Compare with going through all assignments by the order, and tell how many there are."""
        rows = told.solutions(rules, order)
        self.assertEqual(solutions(told.space, rules, order), rows[:100], (rules, order))
        for most in (0, 1, 2, len(rows) - 1, len(rows), len(rows) + 1, 10 ** 6):
            if most >= 0:
                found = solutions(told.space, rules, order, most=most)
                self.assertIs(type(found), list)
                self.assertEqual(found, rows[:most], (rules, order, most))
        return len(rows)

    def test_small_cases(self):
        self.assertEqual(solutions(PAIR, ()), [(0, 0), (0, 1), (1, 0), (1, 1)])
        self.assertEqual(solutions(PAIR, (DIFFERENT,)), [(0, 1), (1, 0)])
        self.assertEqual(solutions(PAIR, (DIFFERENT,), (("a", "down"),)), [(1, 0), (0, 1)])
        self.assertEqual(solutions(PAIR, (DIFFERENT,), (("a", "down"),), most=1), [(1, 0)])
        self.assertEqual(solutions(PAIR, (DIFFERENT,), most=0), [])
        self.assertEqual(solutions(PAIR, (DIFFERENT, EQUAL)), [])
        self.assertEqual(solutions(PAIR, (("or", ()),), most=5), [])
        self.assertEqual(solutions(PAIR, (), (("b", "down"),)), [(0, 1), (1, 1), (0, 0), (1, 0)])

    def test_a_hundred_if_most_is_left_out(self):
        space = grid(3, (0, 1, 2, 3, 4, 5))
        every = all_assignments(space, (("b", "down"),))
        self.assertEqual(solutions(space, (), (("b", "down"),)), every[:100])
        self.assertEqual(solutions(space, (), (("b", "down"),), most=101), every[:101])
        self.assertEqual(solutions(space, (), (("b", "down"),), most=216), every)
        pairs = tuple((0, row) for row in range(6))
        for many in (99, 100, 101):
            # 72 solutions with c = 0 or 1, 24 with c = 2, and the others with c = 3.
            rules = (("in", "c", (0, 1, 2, 3)), ("if", ("c", (2,)), ("in", "a", (0, 1, 2, 3))),
                     ("if", ("c", (3,)), ("table", ("a", "b"), pairs[:many - 96])))
            self.assertEqual(len(solutions(space, rules)), min(100, many))
            self.assertEqual(len(solutions(space, rules, most=200)), many)

    def test_by_each_order(self):
        told = Judge(SPACE)
        for rules in ((), (("sum", ((1, "c"), (1, "b")), "=", 4),), (("different", ("a", "c")), ("in", "b", (2, 15)))):
            for order in every_order(SPACE):
                self.assertGreater(self.assert_listed(told, rules, order), 1)

    def test_each_rule_alone(self):
        told = Judge(SPACE)
        for rule in RULES:
            for order in ORDERS[:3]:
                self.assert_listed(told, (rule,), order)

    def test_drawn_rules(self):
        for space, rules, many in ((SPACE, RULES, 200), (SIX, SIX_RULES, 25)):
            told = Judge(space)
            found = [self.assert_listed(told, *row) for row in drawn(space, rules, many, 5)]
            self.assertIn(0, found)
            self.assertGreater(len(set(found)), 8)

    def test_the_first_one_is_that_of_solve(self):
        for rules, order in drawn(SPACE, RULES, 100, 4):
            first = solutions(SPACE, rules, order, most=1)
            answer = solve(SPACE, rules, order)
            self.assertEqual(first, [answer[1]] if answer[0] == "solution" else [])

    def test_the_list_is_new(self):
        first = solutions(PAIR, (DIFFERENT,))
        first.append((5, 5))
        del first[0]
        self.assertEqual(solutions(PAIR, (DIFFERENT,)), [(0, 1), (1, 0)])
        self.assertIsNot(solutions(PAIR, ()), solutions(PAIR, ()))

    def test_most_is_passed_by_keyword(self):
        with self.assertRaises(TypeError):
            solutions(PAIR, (), (), 1)

    def test_errors(self):
        for bad in BAD_RULES:
            for order in [()] + BAD_ORDERS:
                with self.assertRaises(ClashError) as caught:
                    solutions(PAIR, (DIFFERENT, bad), order)
                self.assertIs(type(caught.exception), BadRule)
        for bad in BAD_ORDERS + strange_values():
            for rules in ((), (DIFFERENT, EQUAL)):
                for most in (0, 1):
                    with self.assertRaises(BadOrder):
                        solutions(PAIR, rules, bad, most=most)


class BestSolutions(unittest.TestCase):
    def assert_best(self, told, rules, terms, direction, order):
        """Compare with going through all solutions by the order, and tell how many have the best worth."""
        rows = told.solutions(rules, order)
        found = best(told.space, rules, terms, direction, order)
        if not rows:
            self.assertIsNone(found)
            return 0
        worths = [told.worth(terms, row) for row in rows]
        worth = min(worths) if direction == "least" else max(worths)
        self.assertEqual(found, (rows[worths.index(worth)], worth), (rules, terms, direction, order))
        self.assertEqual([type(part) for part in found], [tuple, int])
        return worths.count(worth)

    def test_small_cases(self):
        terms = ((1, "a"), (2, "b"))
        self.assertEqual(best(PAIR, (DIFFERENT,), terms, "greatest"), ((0, 1), 2))
        self.assertEqual(best(PAIR, (DIFFERENT,), terms, "least"), ((1, 0), 1))
        self.assertEqual(best(PAIR, (), terms, "greatest"), ((1, 1), 3))
        self.assertEqual(best(PAIR, (), ((-1, "a"),), "least"), ((1, 0), -1))
        self.assertEqual(best(PAIR, (), ((-1, "a"),), "greatest"), ((0, 0), 0))
        self.assertIsNone(best(PAIR, (DIFFERENT, EQUAL), terms, "least"))
        self.assertIsNone(best(PAIR, (("or", ()),), terms, "greatest"))

    def test_several_solutions_with_the_best_worth(self):
        terms = ((1, "a"), (1, "b"))
        for direction in DIRECTIONS:
            for order, row in (
                ((), (0, 1)), ((("b", "up"),), (1, 0)), ((("a", "down"),), (1, 0)), ((("b", "down"),), (0, 1)),
            ):
                self.assertEqual(best(PAIR, (DIFFERENT,), terms, direction, order), (row, 1))
        self.assertEqual(best(PAIR, (), ((1, "a"),), "least", (("b", "down"),)), ((0, 1), 0))
        self.assertEqual(best(PAIR, (), ((1, "a"),), "greatest", (("b", "up"), ("a", "up"))), ((1, 0), 1))

    def test_by_each_order(self):
        told = Judge(SPACE)
        for rules in ((), (("different", ("a", "c")), ("in", "b", (2, 15)))):
            for terms in TERMS[:3]:
                for order in every_order(SPACE):
                    for direction in DIRECTIONS:
                        self.assert_best(told, rules, terms, direction, order)

    def test_drawn_rules(self):
        for space, all_rules, all_terms, many in ((SPACE, RULES, TERMS, 120), (SIX, SIX_RULES, SIX_TERMS, 20)):
            told = Judge(space)
            found = []
            for rules, order in drawn(space, all_rules, many, 5):
                for terms in all_terms:
                    found.extend(self.assert_best(told, rules, terms, direction, order) for direction in DIRECTIONS)
            self.assertIn(0, found)
            self.assertIn(1, found)
            self.assertTrue(any(count > 1 for count in found))

    def test_the_greatest_space(self):
        space = grid(6, (0, 1, 2, 3, 14, 15))
        terms = tuple(zip((9, -9, 9, -9, 9, -9), NAMES))
        self.assertEqual(best(space, (), terms, "greatest"), ((15, 0, 15, 0, 15, 0), 405))
        self.assertEqual(best(space, (), terms, "least"), ((0, 15, 0, 15, 0, 15), -405))
        self.assertEqual(best(space, (), tuple(zip((9,) * 6, NAMES)), "greatest"), ((15,) * 6, 810))
        self.assertEqual(best(space, (("different", tuple(NAMES)),), terms, "greatest", (("e", "up"), ("c", "up"))),
                         ((15, 0, 14, 1, 3, 2), 9 * 29))

    def test_factors_somewhat_beyond_the_limit(self):
        self.assertEqual(best(PAIR, (DIFFERENT,), ((2000, "a"), (10, "b")), "greatest"), ((1, 0), 2000))
        self.assertEqual(best(PAIR, (DIFFERENT,), ((2000, "a"), (10, "b")), "least"), ((0, 1), 10))

    def test_errors(self):
        terms = ((1, "a"),)
        for bad in BAD_RULES:
            for order in [()] + BAD_ORDERS:
                with self.assertRaises(ClashError) as caught:
                    best(PAIR, (DIFFERENT, bad), terms, "least", order)
                self.assertIs(type(caught.exception), BadRule)
        for bad in BAD_ORDERS + strange_values():
            for rules in ((), (DIFFERENT, EQUAL)):
                with self.assertRaises(BadOrder):
                    best(PAIR, rules, terms, "greatest", bad)

    def test_a_space_of_one_assignment(self):
        space = Space((("a", (3,)), ("b", (7,))))
        for direction in DIRECTIONS:
            self.assertEqual(best(space, (), ((2, "b"), (-1, "a")), direction), ((3, 7), 11))
            self.assertIsNone(best(space, (("equal", ("a", "b")),), ((2, "b"),), direction))


if __name__ == "__main__":
    unittest.main()
