"""Points 15 to 17: which papers on first and on best solutions are taken, and that they can be made."""

import unittest

from clashproved.errors import BadOrder, BadRule, ClashError
from clashproved.papers import explain_best, explain_first, judge, judge_best, judge_first
from clashproved.search import solve
from clashproved.spaces import Space
from tests.helpers import every_order, strange_values, with_other_lengths, with_parts_replaced
from tests.judges import Judge
from tests.samples import (
    BAD_ORDERS, BAD_RULES, DIFFERENT, DIRECTIONS, EQUAL, EXAMPLE, NAMES, ORDERS, PAIR, RULES, SIX, SIX_RULES, SIX_TERMS,
    SPACE, TERMS, drawn, grid,
)

SIX_ORDER = (("e", "down"), ("b", "down"), ("d", "up"))
OTHERS = [
    -1, 0, 1, 2, 3, "a", "b", "rule", "resolve", "solution", "refuted", "first", "best", (0,), (1,), (0, 1), (1, 0),
    ("a", (0,)), (("a", (0,)),), (("b", (1,)),), (("rule", 0, ()),), (("rule", 1, ()),), ((("rule", 1, ()),),), EXAMPLE,
]


class ExplanationTests(unittest.TestCase):
    def assert_same(self, found, expected, case):
        self.assertIs(type(found), bool)
        self.assertEqual(found, expected, case)
        return found

    def assert_first(self, told, rules, order, paper):
        """Compare what judge_first tells with what the tests find themselves, and tell it."""
        case = (rules, order, paper)
        return self.assert_same(judge_first(told.space, *case), told.takes_first(*case), case)

    def assert_best(self, told, rules, terms, direction, paper):
        """Compare what judge_best tells with what the tests find themselves, and tell it."""
        case = (rules, terms, direction, paper)
        return self.assert_same(judge_best(told.space, *case), told.takes_best(*case), case)

    def assert_explained_first(self, told, rules, order):
        """Look at what the maker returns, and tell of which kind it is."""
        paper = explain_first(told.space, rules, order)
        solutions = told.solutions(rules, order)
        if solutions:
            self.assertEqual((type(paper), len(paper), paper[:2]), (tuple, 3, ("first", solutions[0])))
            self.assertTrue(self.assert_first(told, rules, order, paper))
        else:
            self.assert_refuted(told, rules, paper)
            self.assertFalse(self.assert_first(told, rules, order, paper))
        return paper[0]

    def assert_explained_best(self, told, rules, terms, direction):
        """Look at what the maker returns, and tell of which kind it is."""
        paper = explain_best(told.space, rules, terms, direction)
        worths = [told.worth(terms, row) for row in told.solutions(rules)]
        if worths:
            self.assertEqual((type(paper), len(paper), paper[0]), (tuple, 3, "best"))
            self.assertEqual(told.worth(terms, paper[1]), min(worths) if direction == "least" else max(worths))
            self.assertTrue(self.assert_best(told, rules, terms, direction, paper))
        else:
            self.assert_refuted(told, rules, paper)
            self.assertFalse(self.assert_best(told, rules, terms, direction, paper))
        return paper[0]

    def assert_refuted(self, told, rules, paper):
        self.assertEqual((type(paper), len(paper), paper[0]), (tuple, 2, "refuted"))
        self.assertTrue(told.takes(rules, paper))
        self.assertIs(judge(told.space, rules, paper), True)


class FirstSolutions(ExplanationTests):
    def test_papers_written_by_hand(self):
        space = Space((("a", (0, 1, 2)), ("b", (3, 4))))
        rules = (("sum", ((1, "a"), (1, "b")), ">=", 5), ("in", "a", (0, 1)))
        # a = 0 leaves no value for b, and with a = 1 there is none but 4.
        first = (("rule", 0, (("a", (1, 2)),)), ("rule", 2, (("a", (0,)),)), ("resolve", 0, (("a", 1),), ()))
        second = (("rule", 0, (("a", (2,)), ("b", (4,)))), ("rule", 2, (("a", (1,)),)), ("rule", 3, (("b", (3,)),)),
                  ("resolve", 0, (("a", 1), ("b", 2)), ()))
        told = Judge(space)
        self.assertTrue(self.assert_first(told, rules, (), ("first", (1, 4), (first, second))))
        for paper in (
            ("first", (1, 4), (second, first)), ("first", (1, 4), (first,)), ("first", (1, 4), ()),
            ("first", (1, 4), (first, second, second)), ("first", (1, 4), (first, first)), ("first", (1, 4), first),
            ("first", (1, 3), (first,)), ("first", (2, 3), (first,)), ("first", (0, 3), ()), ("first", (1, 4)),
            ("first", (1, 4), [first, second]), ["first", (1, 4), (first, second)], ("first", [1, 4], (first, second)),
            ("first", (1, 4), (list(first), second)), ("best", (1, 4), (first, second)), ("solution", (1, 4)),
            ("first", (1, 4), (first, second), ()), ("refuted", first),
        ):
            self.assertFalse(self.assert_first(told, rules, (), paper), paper)
        # By this order b comes ahead, and 4 is the first of its values.
        self.assertTrue(self.assert_first(told, rules, (("b", "down"),), ("first", (1, 4), ((
            ("rule", 0, (("a", (1, 2)),)), ("rule", 3, (("a", (0,)),)), ("resolve", 0, (("a", 1),), ())),))))
        self.assertFalse(self.assert_first(told, rules, (("b", "down"),), ("first", (1, 4), (first, second))))
        # And by this one the second refutation has no value of a to rely on.
        turned = (("rule", 0, (("a", (2,)), ("b", (4,)))), ("rule", 1, (("a", (0, 1)),)), ("rule", 2, (("b", (3,)),)),
                  ("resolve", 0, (("a", 1), ("b", 2)), ()))
        ahead = (("rule", 0, (("a", (1, 2)),)), ("rule", 3, (("a", (0,)),)), ("resolve", 0, (("a", 1),), ()))
        for order in ((("b", "up"),), (("b", "up"), ("a", "up"))):
            self.assertTrue(self.assert_first(told, rules, order, ("first", (1, 4), (turned, ahead))))
            self.assertFalse(self.assert_first(told, rules, order, ("first", (1, 4), (ahead, turned))))

    def test_no_refutation_for_a_variable_without_values_ahead(self):
        for space in (PAIR, SPACE):
            told = Judge(space)
            for order in every_order(space):
                first = told.solutions((), order)[0]
                self.assertEqual(explain_first(space, (), order), ("first", first, ()))
                self.assertTrue(self.assert_first(told, (), order, ("first", first, ())))
                for row in told.rows:
                    self.assertEqual(self.assert_first(told, (), order, ("first", row, ())), row == first)
                for extra in ((), EXAMPLE, (("rule", 0, ()),), None):
                    self.assertFalse(self.assert_first(told, (), order, ("first", first, (extra,))))

    def test_each_assignment_as_the_first_one(self):
        told = Judge(SPACE)
        for c, a, b in told.rows:
            for order in ORDERS:
                rules = (("in", "c", (c,)), ("table", ("b", "a"), ((b, a),)))
                paper = explain_first(SPACE, rules, order)
                self.assertEqual(paper[:2], ("first", (c, a, b)))
                directions = dict(order)
                ahead = [row for (name, values), row in zip(SPACE.variables, (c, a, b))
                         if row != (values[-1] if directions.get(name) == "down" else values[0])]
                self.assertEqual(len(paper[2]), len(ahead))
                self.assertTrue(self.assert_first(told, rules, order, paper))

    def test_each_rule_alone(self):
        told = Judge(SPACE)
        for rule in RULES[::2]:
            for order in ORDERS:
                self.assert_explained_first(told, (rule,), order)

    def test_two_rules_by_each_order(self):
        told = Judge(SPACE)
        for rules in (
            (("sum", ((1, "c"), (1, "b")), "=", 4), ("different", ("a", "c"))),
            (("element", "c", ("b", "c", "a"), "c"), ("or", (("a", (1,)), ("b", (15,))))),
            (("sum", ((2, "b"), (-1, "c"), (3, "a")), "=", 4), ("in", "b", (2, 15))),
        ):
            for order in every_order(SPACE):
                self.assert_explained_first(told, rules, order)

    def test_drawn_rules(self):
        for space, rules, many, most in ((SPACE, RULES, 300, 6), (SIX, SIX_RULES, 30, 6)):
            told = Judge(space)
            kinds = [self.assert_explained_first(told, *row) for row in drawn(space, rules, many, most)]
            for kind in ("first", "refuted"):
                self.assertGreater(kinds.count(kind), many // 10)

    def test_papers_with_another_assignment_than_the_first_one(self):
        told = Judge(SPACE)
        for rules, order in drawn(SPACE, RULES, 60, 4):
            paper = explain_first(SPACE, rules, order)
            if paper[0] == "first":
                refutations = paper[2]
                for row in told.rows:
                    for others in (refutations, refutations[1:], refutations[:1], ()):
                        if self.assert_first(told, rules, order, ("first", row, others)):
                            self.assertEqual(row, paper[1])

    def test_a_refutation_too_many_or_too_few_or_in_another_order(self):
        told = Judge(SIX)
        never = (("rule", 0, ()),)
        for rules in (
            (("sum", tuple(zip((1, 2, -3, 4, -5, 6), "abcdef")), "=", 20),),
            (("table", tuple("fedcba"), ((15, 2, 0, 5, 4, 3), (15, 3, 2, 5, 4, 3))), ("in", "d", (1, 2))),
            (("sum", ((1, "f"), (-4, "b")), "=", -1), ("sum", tuple(zip((1, 1, 1, 1, 1, 1), "abcdef")), ">=", 14)),
        ):
            for order in ((), SIX_ORDER):
                paper = explain_first(SIX, rules, order)
                kind, row, steps = paper
                self.assertEqual(kind, "first")
                self.assertTrue(self.assert_first(told, rules, order, paper))
                for at in range(len(steps) + 1):
                    for others in (steps[:at] + (never,) + steps[at:], steps[:at] + ((),) + steps[at:],
                                   steps[:at] + steps[at:at + 1] + steps[at:], steps[:at] + steps[at + 1:]):
                        if others != steps:
                            self.assertFalse(self.assert_first(told, rules, order, ("first", row, others)))
                    self.assert_first(told, rules, order, ("first", row, steps[at:] + steps[:at]))
                self.assertFalse(len(steps) > 1 and self.assert_first(told, rules, order, ("first", row, steps[::-1])))

    def test_papers_by_another_order(self):
        told = Judge(SPACE)
        rules = (("sum", ((1, "c"), (1, "b")), "=", 4), ("different", ("a", "c")))
        papers = [explain_first(SPACE, rules, order) for order in every_order(SPACE)]
        for order in every_order(SPACE):
            found = [self.assert_first(told, rules, order, paper) for paper in papers]
            self.assertIn(True, found)
            self.assertIn(False, found)

    def test_each_place_turned_into_something_else(self):
        rules = (DIFFERENT, ("or", (("a", (1,)), ("b", (0,)))))
        told = Judge(PAIR)
        for order in ((), (("b", "up"),)):
            paper = explain_first(PAIR, rules, order)
            self.assertEqual(paper[:2], ("first", (1, 0)))
            changed = list(with_parts_replaced(paper, OTHERS)) + list(with_other_lengths(paper))
            found = [other for other in changed if self.assert_first(told, rules, order, other)]
            self.assertIn(paper, found)

    def test_things_that_are_no_papers(self):
        told = Judge(PAIR)
        for rules in ((), (DIFFERENT,), (DIFFERENT, EQUAL)):
            for thing in strange_values() + OTHERS:
                for paper in (
                    thing, ("first", thing), ("first", (0, 1), thing), ("first", thing, ()), (thing, (0, 1), ()),
                    ("first", (0, 1), (), thing), ("first", (0, 1), (thing,)), ("first", (1, 0), ((thing,),)),
                ):
                    self.assert_first(told, rules, (), paper)

    def test_something_that_is_no_order(self):
        papers = (("first", (0, 1), ()), ("solution", (0, 1)), None, (), 5, ("first", [], {}))
        for bad in BAD_ORDERS + strange_values():
            for rules in ((), (DIFFERENT,), (DIFFERENT, EQUAL), (("or", ()),)):
                for paper in papers:
                    with self.assertRaises(BadOrder, msg=repr(bad)):
                        judge_first(PAIR, rules, bad, paper)
                with self.assertRaises(BadOrder, msg=repr(bad)):
                    explain_first(PAIR, rules, bad)

    def test_something_that_is_no_rule(self):
        for bad in BAD_RULES:
            for order in [()] + BAD_ORDERS:
                with self.assertRaises(ClashError) as caught:
                    explain_first(PAIR, (DIFFERENT, bad), order)
                self.assertIs(type(caught.exception), BadRule)


class BestSolutions(ExplanationTests):
    def test_papers_written_by_hand(self):
        told = Judge(PAIR)
        terms = ((1, "a"), (2, "b"))
        # To have less than 1 both would be 0, and to have more than 2 both would be 1.
        least = (("rule", 1, (("b", (0,)),)), ("rule", 1, (("a", (0,)),)), ("rule", 0, (("a", (1,)), ("b", (1,)))),
                 ("resolve", 2, (("a", 1), ("b", 0)), ()))
        greatest = (("rule", 1, (("b", (1,)),)), ("rule", 1, (("a", (1,)),)), ("rule", 0, (("a", (0,)), ("b", (0,)))),
                    ("resolve", 2, (("a", 1), ("b", 0)), ()))
        for direction, row, steps in (("least", (1, 0), least), ("greatest", (0, 1), greatest)):
            self.assertTrue(self.assert_best(told, (DIFFERENT,), terms, direction, ("best", row, steps)))
            for paper in (
                ("best", row[::-1], steps), ("best", (0, 0), steps), ("best", (1, 1), steps), ("best", row, ()),
                ("best", row, steps[:3]), ("best", row, steps[1:]), ("best", row, list(steps)),
                ("best", list(row), steps), ["best", row, steps], ("best", row), ("best", row, steps, ()),
                ("first", row, steps), ("refuted", steps), ("solution", row), ("best", row, (steps,)),
            ):
                self.assertFalse(self.assert_best(told, (DIFFERENT,), terms, direction, paper), paper)
        self.assertFalse(self.assert_best(told, (DIFFERENT,), terms, "least", ("best", (0, 1), greatest)))
        self.assertFalse(self.assert_best(told, (DIFFERENT,), terms, "greatest", ("best", (1, 0), least)))
        self.assertFalse(self.assert_best(told, (DIFFERENT,), terms, "greatest", ("best", (0, 1), least)))

    def test_the_bound_is_the_last_rule(self):
        told = Judge(PAIR)
        for direction, row in (("least", (0, 0)), ("greatest", (1, 1))):
            for terms in (((1, "a"),), ((3, "b"), (2, "a"))):
                self.assertTrue(self.assert_best(told, (), terms, direction, ("best", row, (("rule", 0, ()),))))
                self.assertTrue(self.assert_best(told, (EQUAL,), terms, direction, ("best", row, (("rule", 1, ()),))))
                self.assertFalse(self.assert_best(told, (EQUAL,), terms, direction, ("best", row, (("rule", 0, ()),))))
                self.assertFalse(self.assert_best(told, (EQUAL,), terms, direction, ("best", row, (("rule", 2, ()),))))

    def test_no_rules(self):
        for space in (PAIR, SPACE):
            told = Judge(space)
            for terms in TERMS[:1] if space == PAIR else TERMS:
                for direction in DIRECTIONS:
                    self.assertEqual(self.assert_explained_best(told, (), terms, direction), "best")

    def test_each_rule_alone(self):
        told = Judge(SPACE)
        for rule in RULES[::2]:
            for terms in TERMS:
                for direction in DIRECTIONS:
                    self.assert_explained_best(told, (rule,), terms, direction)

    def test_drawn_rules(self):
        for space, all_rules, all_terms, many in ((SPACE, RULES, TERMS, 120), (SIX, SIX_RULES, SIX_TERMS, 16)):
            told = Judge(space)
            kinds = []
            for rules, _ in drawn(space, all_rules, many, 6):
                for terms in all_terms:
                    kinds.extend(self.assert_explained_best(told, rules, terms, direction) for direction in DIRECTIONS)
            for kind in ("best", "refuted"):
                self.assertGreater(kinds.count(kind), len(kinds) // 10)

    def test_papers_with_another_assignment_than_a_best_one(self):
        told = Judge(SPACE)
        taken = 0
        for rules, _ in drawn(SPACE, RULES, 40, 3):
            for terms in TERMS:
                for direction in DIRECTIONS:
                    paper = explain_best(SPACE, rules, terms, direction)
                    if paper[0] == "best":
                        worth = told.worth(terms, paper[1])
                        for row in told.rows:
                            found = self.assert_best(told, rules, terms, direction, ("best", row, paper[2]))
                            alike = row in told.solutions(rules) and told.worth(terms, row) == worth
                            self.assertEqual(found, alike)
                            taken += found and row != paper[1]
        self.assertGreater(taken, 50)

    def test_papers_for_other_terms_and_the_other_direction(self):
        told = Judge(SPACE)
        rules = (("sum", ((1, "c"), (1, "b")), "=", 4), ("different", ("a", "c")))
        papers = [explain_best(SPACE, rules, terms, direction) for terms in TERMS for direction in DIRECTIONS]
        for terms in TERMS:
            for direction in DIRECTIONS:
                found = [self.assert_best(told, rules, terms, direction, paper) for paper in papers]
                self.assertIn(True, found)
                self.assertIn(False, found)

    def test_each_place_turned_into_something_else(self):
        told = Judge(PAIR)
        for terms, direction in ((((1, "a"), (2, "b")), "least"), (((-3, "b"),), "least"), (((1, "a"),), "greatest")):
            paper = explain_best(PAIR, (DIFFERENT,), terms, direction)
            changed = list(with_parts_replaced(paper, OTHERS)) + list(with_other_lengths(paper))
            found = [other for other in changed if self.assert_best(told, (DIFFERENT,), terms, direction, other)]
            self.assertIn(paper, found)

    def test_things_that_are_no_papers(self):
        told = Judge(PAIR)
        for rules in ((), (DIFFERENT,), (DIFFERENT, EQUAL)):
            for thing in strange_values() + OTHERS:
                for direction in DIRECTIONS:
                    for paper in (thing, ("best", thing), ("best", (0, 1), thing), ("best", thing, (("rule", 1, ()),)),
                                  (thing, (0, 1), ()), ("best", (0, 0), (("rule", 0, ()),), thing),
                                  ("best", (0, 0), (thing,)), ("best", (0, 0), (("rule", thing, ()),))):
                        self.assert_best(told, rules, ((1, "a"), (2, "b")), direction, paper)

    def test_the_greatest_space(self):
        space = grid(6, (0, 1, 2, 3, 14, 15))
        terms = tuple(zip((9, -9, 9, -9, 9, -9), NAMES))
        for rules in ((), (("different", tuple(NAMES)),)):
            for direction, sign in (("least", -1), ("greatest", 1)):
                paper = explain_best(space, rules, terms, direction)
                self.assertEqual(sum(factor * value for (factor, _), value in zip(terms, paper[1])),
                                 sign * (9 * 45 if rules == () else 9 * (15 + 14 + 3 - 2 - 1)))
                self.assertIs(judge_best(space, rules, terms, direction, paper), True)

    def test_factors_somewhat_beyond_the_limit(self):
        told = Judge(SPACE)
        rules = (("different", ("a", "b")),)
        for terms in (((100, "b"), (-12, "c")), ((-90, "b"), (10, "a"))):
            for direction in DIRECTIONS:
                self.assertEqual(self.assert_explained_best(told, rules, terms, direction), "best")

    def test_something_that_is_no_rule(self):
        for bad in BAD_RULES:
            with self.assertRaises(BadRule):
                explain_best(PAIR, (DIFFERENT, bad), ((1, "a"),), "least")


class NoSolution(ExplanationTests):
    def test_makers_return_a_refutation_of_the_rules_alone(self):
        told = Judge(PAIR)
        for rules in ((DIFFERENT, EQUAL), (("or", ()),), (DIFFERENT, ("in", "a", (1,)), ("in", "b", (1,)))):
            for order in every_order(PAIR):
                self.assertEqual(self.assert_explained_first(told, rules, order), "refuted")
            for direction in DIRECTIONS:
                self.assertEqual(self.assert_explained_best(told, rules, ((1, "a"), (-1, "b")), direction), "refuted")

    def test_solve_papers_are_no_first_or_best_ones(self):
        for rules in ((DIFFERENT,), (DIFFERENT, EQUAL)):
            paper = solve(PAIR, rules)
            self.assertIs(judge(PAIR, rules, paper), True)
            self.assertIs(judge_first(PAIR, rules, (), paper), False)
            self.assertIs(judge_best(PAIR, rules, ((1, "a"),), "least", paper), False)


if __name__ == "__main__":
    unittest.main()
