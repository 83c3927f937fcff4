"""Point 6: which assignments satisfy a rule, and the worth of assignments."""

import unittest
from itertools import combinations, permutations

from clashproved.rules import check_rule, satisfies, worth_of
from clashproved.spaces import Space
from tests.helpers import every_assignment

DOCUMENT = Space((("a", (0, 1)), ("b", (2, 5))))
SPACE = Space((("c", (0, 1, 2, 3)), ("a", (0, 1)), ("b", (1, 2, 15))))
RELATIONS = {
    "=": lambda sum_of, number: sum_of == number,
    "<=": lambda sum_of, number: sum_of <= number,
    ">=": lambda sum_of, number: sum_of >= number,
    "!=": lambda sum_of, number: sum_of != number,
}


class RuleTests(unittest.TestCase):
    def told(self, rule, assignment, space=SPACE):
        check_rule(space, rule)
        found = satisfies(space, rule, assignment)
        self.assertIn(repr(found), ("True", "False"))
        return found

    def assert_means(self, rule, meaning, space=SPACE):
        """Compare a rule on all assignments with a function of their values by name."""
        for row in every_assignment(space):
            expected = meaning(**dict(zip(space.names, row)))
            self.assertIs(self.told(rule, row, space), expected, (rule, row))

    def assert_leaves(self, rule, rows, space=SPACE):
        found = [row for row in every_assignment(space) if self.told(rule, row, space)]
        self.assertEqual(found, rows, rule)


class Examples(RuleTests):
    def test_the_examples_of_the_document(self):
        self.assertIs(self.told(("sum", ((2, "a"), (-1, "b")), "<=", -3), (1, 5), DOCUMENT), True)
        self.assertIs(self.told(("element", "a", ("b", "a"), "a"), (1, 2), DOCUMENT), True)

    def test_the_rules_of_the_example_of_point_13(self):
        space = Space((("a", (0, 1)), ("b", (0, 1))))
        self.assert_leaves(("different", ("a", "b")), [(0, 1), (1, 0)], space)
        self.assert_leaves(("equal", ("a", "b")), [(0, 0), (1, 1)], space)


class In(RuleTests):
    def test_in(self):
        self.assert_means(("in", "c", (1, 3)), lambda c, a, b: c in (1, 3))
        self.assert_means(("in", "a", (1,)), lambda c, a, b: a == 1)
        self.assert_means(("in", "b", (1, 2, 15)), lambda c, a, b: True)

    def test_values_that_are_not_of_the_variable(self):
        self.assert_means(("in", "a", (2, 15)), lambda c, a, b: False)
        self.assert_means(("in", "b", (0, 3, 14)), lambda c, a, b: False)
        self.assert_means(("in", "b", (0, 2, 14)), lambda c, a, b: b == 2)
        self.assert_means(("in", "b", tuple(range(16))), lambda c, a, b: True)


class Sum(RuleTests):
    def test_each_relation_at_each_number(self):
        for relation, compare in RELATIONS.items():
            for number in range(-20, 21):
                rule = ("sum", ((1, "a"), (2, "c"), (-1, "b")), relation, number)
                self.assert_means(rule, lambda c, a, b: compare(a + 2 * c - b, number))

    def test_a_single_term(self):
        for relation, compare in RELATIONS.items():
            for factor in (-9, -1, 1, 9):
                for number in (-135, -134, -9, -1, 0, 1, 9, 134, 135):
                    rule = ("sum", ((factor, "b"),), relation, number)
                    self.assert_means(rule, lambda c, a, b: compare(factor * b, number))

    def test_small_lists(self):
        space = Space((("a", (0, 1)), ("b", (0, 1))))
        terms = ((1, "a"), (1, "b"))
        self.assert_leaves(("sum", terms, "=", 1), [(0, 1), (1, 0)], space)
        self.assert_leaves(("sum", terms, "<=", 1), [(0, 0), (0, 1), (1, 0)], space)
        self.assert_leaves(("sum", terms, ">=", 1), [(0, 1), (1, 0), (1, 1)], space)
        self.assert_leaves(("sum", terms, "!=", 1), [(0, 0), (1, 1)], space)

    def test_six_terms_at_the_greatest_sums(self):
        space = Space(tuple((name, (0, 15)) for name in "abcdef"))
        for factor in (-9, 9):
            terms = tuple((factor, name) for name in "fedcba")
            for relation, compare in RELATIONS.items():
                for number in (factor * 90, factor * 90 - 1, factor * 90 + 1, 1100, -1100):
                    found = self.told(("sum", terms, relation, number), (15,) * 6, space)
                    self.assertIs(found, compare(factor * 90, number))


class DifferentAndEqual(RuleTests):
    def test_two_names(self):
        self.assert_means(("different", ("a", "c")), lambda c, a, b: a != c)
        self.assert_means(("different", ("b", "a")), lambda c, a, b: a != b)
        self.assert_means(("equal", ("a", "c")), lambda c, a, b: a == c)
        self.assert_means(("equal", ("c", "b")), lambda c, a, b: b == c)

    def test_three_names(self):
        for names in permutations(("a", "b", "c")):
            self.assert_means(("different", names), lambda c, a, b: a != b and b != c and a != c)
            self.assert_means(("equal", names), lambda c, a, b: a == b == c)

    def test_six_names(self):
        space = Space(tuple((name, (0, 1, 2, 3, 4, 5)) for name in "abcdef"))
        different, equal = ("different", tuple("fadbec")), ("equal", tuple("fadbec"))
        for row in permutations(range(6)):
            self.assertIs(self.told(different, row, space), True)
            self.assertIs(self.told(equal, row, space), False)
        for first, second in combinations(range(6), 2):
            row = [0, 1, 2, 3, 4, 5]
            row[second] = row[first]
            self.assertIs(self.told(different, tuple(row), space), False)
        for value in range(6):
            self.assertIs(self.told(equal, (value,) * 6, space), True)
            for at in range(6):
                row = [value] * 6
                row[at] = (value + 1) % 6
                self.assertIs(self.told(equal, tuple(row), space), False)
                self.assertIs(self.told(different, tuple(row), space), False)

    def test_different_is_not_the_contrary_of_equal(self):
        for kind in ("different", "equal"):
            self.assertIs(self.told((kind, ("a", "b", "c")), (1, 1, 2)), False)


class Table(RuleTests):
    def test_rows_have_the_values_in_the_order_of_the_names(self):
        rule = ("table", ("b", "a"), ((15, 0), (2, 1), (1, 1)))
        self.assert_means(rule, lambda c, a, b: (b, a) in ((15, 0), (2, 1), (1, 1)))
        rule = ("table", ("a", "c"), ((0, 1),))
        self.assert_means(rule, lambda c, a, b: a == 0 and c == 1)
        rule = ("table", ("c", "a"), ((0, 1),))
        self.assert_means(rule, lambda c, a, b: c == 0 and a == 1)

    def test_all_names(self):
        self.assert_leaves(("table", ("b", "c", "a"), ((1, 3, 0), (15, 0, 1))), [(0, 1, 15), (3, 0, 1)])

    def test_one_name(self):
        self.assert_means(("table", ("c",), ((0,), (2,))), lambda c, a, b: c in (0, 2))

    def test_rows_with_values_that_are_not_of_the_variables(self):
        self.assert_means(("table", ("a", "b"), ((2, 2), (0, 0), (1, 3))), lambda c, a, b: False)
        self.assert_means(("table", ("a", "b"), ((2, 2), (1, 2))), lambda c, a, b: (a, b) == (1, 2))

    def test_a_row_twice_and_the_last_of_twenty_rows(self):
        self.assert_means(("table", ("a", "c"), ((1, 1), (1, 1))), lambda c, a, b: a == 1 and c == 1)
        rows = ((9, 9),) * 19 + ((1, 3),)
        self.assert_means(("table", ("a", "c"), rows), lambda c, a, b: a == 1 and c == 3)


class Count(RuleTests):
    def test_every_number_of_three(self):
        for number in range(5):
            rule = ("count", ("a", "b", "c"), (1, 2), (number,))
            self.assert_means(rule, lambda c, a, b: (a in (1, 2)) + (b in (1, 2)) + (c in (1, 2)) == number)

    def test_several_numbers(self):
        rule = ("count", ("c", "a"), (0,), (0, 2))
        self.assert_means(rule, lambda c, a, b: (a == 0) == (c == 0))
        rule = ("count", ("c", "b"), (1, 2), (1, 2, 15))
        self.assert_means(rule, lambda c, a, b: b in (1, 2) or c in (1, 2))

    def test_numbers_that_are_never_reached(self):
        self.assert_means(("count", ("a", "b"), (0, 1, 2, 15), (3, 15)), lambda c, a, b: False)
        self.assert_means(("count", ("a", "b"), (0, 1, 2, 15), (0, 1)), lambda c, a, b: False)
        self.assert_means(("count", ("a", "b"), (0, 1, 2, 15), (2,)), lambda c, a, b: True)

    def test_values_that_are_not_of_the_variables(self):
        self.assert_means(("count", ("a", "b"), (7, 9), (0,)), lambda c, a, b: True)
        self.assert_means(("count", ("a", "b"), (7, 9), (1, 2)), lambda c, a, b: False)
        self.assert_means(("count", ("a", "b"), (7, 15), (1,)), lambda c, a, b: b == 15)

    def test_one_name(self):
        self.assert_means(("count", ("c",), (3,), (1,)), lambda c, a, b: c == 3)
        self.assert_means(("count", ("c",), (3,), (0,)), lambda c, a, b: c != 3)

    def test_variables_are_counted_not_values(self):
        self.assertIs(self.told(("count", ("a", "b", "c"), (1,), (3,)), (1, 1, 1)), True)
        self.assertIs(self.told(("count", ("a", "b", "c"), (1,), (1,)), (1, 1, 1)), False)

    def test_six_names(self):
        space = Space(tuple((name, (0, 1)) for name in "abcdef"))
        for row in every_assignment(space):
            for number in range(8):
                found = self.told(("count", tuple("badcfe"), (1,), (number,)), row, space)
                self.assertIs(found, sum(row) == number)


class Element(RuleTests):
    def test_an_index_at_and_beyond_the_number_of_names(self):
        # The variable c has the values 0 to 3, so that all but the last list end ahead of its greatest one.
        self.assert_means(("element", "c", ("b",), "a"), lambda c, a, b: c == 0 and a == b)
        self.assert_means(("element", "c", ("b", "a"), "a"), lambda c, a, b: c < 2 and (b, a)[c] == a)
        self.assert_means(("element", "c", ("a", "b", "b"), "a"), lambda c, a, b: c < 3 and (a, b, b)[c] == a)
        self.assert_means(("element", "c", ("a", "b", "b", "a"), "a"), lambda c, a, b: (a, b, b, a)[c] == a)

    def test_more_names_than_values_of_the_index(self):
        self.assert_means(("element", "a", ("b", "c", "b", "b", "b", "b"), "c"), lambda c, a, b: (b, c)[a] == c)

    def test_an_index_that_is_always_beyond(self):
        space = Space((("a", (1, 6)), ("b", (1,))))
        self.assert_means(("element", "a", ("b",), "b"), lambda a, b: False, space)
        self.assert_means(("element", "a", ("b", "b"), "b"), lambda a, b: a == 1, space)
        self.assert_means(("element", "a", ("b",) * 6, "b"), lambda a, b: a == 1, space)

    def test_the_index_among_the_names_and_as_the_name(self):
        self.assert_means(("element", "c", ("b", "c", "a"), "c"), lambda c, a, b: c < 3 and (b, c, a)[c] == c)
        self.assert_means(("element", "c", ("c",), "c"), lambda c, a, b: c == 0)
        self.assert_means(("element", "a", ("a", "a"), "a"), lambda c, a, b: True)
        self.assert_means(("element", "a", ("c", "b"), "a"), lambda c, a, b: (c, b)[a] == a)

    def test_the_place_counts_in_the_names_not_in_the_values(self):
        # The least value of b is 1: this is the place 1, not the place 0.
        self.assert_means(("element", "b", ("a", "c", "a"), "a"), lambda c, a, b: b < 3 and (a, c, a)[b] == a)


class Or(RuleTests):
    def test_without_literals_it_is_never_satisfied(self):
        self.assert_means(("or", ()), lambda c, a, b: False)

    def test_one_literal(self):
        self.assert_means(("or", (("c", (0, 3)),)), lambda c, a, b: c in (0, 3))

    def test_several_literals(self):
        self.assert_means(("or", (("b", (15,)), ("c", (0, 2)))), lambda c, a, b: b == 15 or c in (0, 2))
        rule = ("or", (("a", (1,)), ("b", (1, 2)), ("c", (3,))))
        self.assert_means(rule, lambda c, a, b: a == 1 or b < 3 or c == 3)

    def test_values_that_are_not_of_the_variable(self):
        self.assert_means(("or", (("a", (5,)), ("b", (0, 3)))), lambda c, a, b: False)
        self.assert_means(("or", (("a", (5,)), ("b", (0, 2)))), lambda c, a, b: b == 2)

    def test_six_literals(self):
        space = Space(tuple((name, (0, 1)) for name in "abcdef"))
        rule = ("or", tuple((name, (1,)) for name in "cafdeb"))
        for row in every_assignment(space):
            self.assertIs(self.told(rule, row, space), 1 in row)


class If(RuleTests):
    def test_over_each_other_kind(self):
        cases = [
            (("in", "b", (2, 15)), lambda c, a, b: b in (2, 15)),
            (("sum", ((1, "c"), (1, "b")), "<=", 3), lambda c, a, b: c + b <= 3),
            (("sum", ((1, "c"), (1, "b")), ">=", 3), lambda c, a, b: c + b >= 3),
            (("sum", ((1, "c"), (1, "b")), "=", 3), lambda c, a, b: c + b == 3),
            (("sum", ((1, "c"), (1, "b")), "!=", 3), lambda c, a, b: c + b != 3),
            (("different", ("b", "c")), lambda c, a, b: b != c),
            (("equal", ("b", "c")), lambda c, a, b: b == c),
            (("table", ("b", "c"), ((1, 2), (15, 0))), lambda c, a, b: (b, c) in ((1, 2), (15, 0))),
            (("count", ("b", "c"), (2,), (1,)), lambda c, a, b: (b == 2) + (c == 2) == 1),
            (("element", "c", ("a", "b"), "a"), lambda c, a, b: c == 0 or (c == 1 and a == b)),
            (("or", (("c", (2,)), ("b", (2,)))), lambda c, a, b: b == 2 or c == 2),
            (("or", ()), lambda c, a, b: False),
        ]
        self.assertEqual(len({rule[0] for rule, _ in cases}), 8)
        for rule, meaning in cases:
            self.assert_means(rule, meaning)
            self.assert_means(("if", ("a", (1,)), rule), lambda c, a, b: a != 1 or meaning(c, a, b))
            self.assert_means(("if", ("a", (0, 7)), rule), lambda c, a, b: a != 0 or meaning(c, a, b))
            self.assert_means(("if", ("c", (1, 2)), rule), lambda c, a, b: c not in (1, 2) or meaning(c, a, b))
            self.assert_means(("if", ("a", (7,)), rule), lambda c, a, b: True)
            self.assert_means(("if", ("a", (0, 1)), rule), meaning)


class Worth(unittest.TestCase):
    def test_factors_times_values_are_added_up(self):
        for c, a, b in every_assignment(SPACE):
            self.assertEqual(worth_of(SPACE, ((2, "a"), (-3, "b")), (c, a, b)), 2 * a - 3 * b)
            self.assertEqual(worth_of(SPACE, ((-3, "b"), (2, "a")), (c, a, b)), 2 * a - 3 * b)
            self.assertEqual(worth_of(SPACE, ((9, "c"), (1, "b"), (-9, "a")), (c, a, b)), 9 * c + b - 9 * a)
            self.assertEqual(worth_of(SPACE, ((-1, "c"),), (c, a, b)), -c)

    def test_small_sums(self):
        self.assertEqual(worth_of(DOCUMENT, ((1, "a"), (2, "b")), (1, 5)), 11)
        self.assertEqual(worth_of(DOCUMENT, ((5, "a"), (1, "b")), (0, 2)), 2)
        self.assertEqual(worth_of(DOCUMENT, ((5, "a"), (-1, "b")), (1, 5)), 0)

    def test_the_greatest_and_the_least_sum(self):
        space = Space(tuple((name, (0, 15)) for name in "abcdef"))
        for factor in (-9, 9):
            terms = tuple((factor, name) for name in "abcdef")
            self.assertEqual(worth_of(space, terms, (15,) * 6), factor * 90)
            self.assertEqual(worth_of(space, terms, (0,) * 6), 0)

    def test_a_sum_of_distinct_parts(self):
        space = Space(tuple((name, (1, 2, 3, 4, 5, 6)) for name in "abcdef"))
        terms = ((1, "f"), (-2, "e"), (3, "d"), (-4, "c"), (5, "b"), (-6, "a"))
        self.assertEqual(worth_of(space, terms, (1, 2, 3, 4, 5, 6)), 6 - 10 + 12 - 12 + 10 - 6)


if __name__ == "__main__":
    unittest.main()
