"""Points 11, 13, 14 and 17: which papers on whether rules have a solution are taken, and that one can be made."""

import random
import unittest

from clashproved.errors import BadRule
from clashproved.papers import judge, paper_of
from clashproved.search import solve
from clashproved.spaces import Space
from tests.brute import every_clause
from tests.helpers import every_assignment, strange_values, with_other_lengths, with_parts_replaced
from tests.judges import Judge
from tests.samples import (
    BAD_RULES, DIFFERENT, EQUAL, EXAMPLE, ORDERS, PAIR, RULES, SIX, SIX_RULES, SPACE, drawn, grid,
)

CLASH = (DIFFERENT, EQUAL)
TAKEN = ("refuted", EXAMPLE)
ONE = (("a", (1,)),)
# What might stand in a paper at some place, if not at this one.
OTHERS = [
    -1, 0, 1, 2, 3, 4, 5, 6, "a", "b", "c", "rule", "resolve", "in", "solution", "refuted", "first", "best",
    (0,), (1,), (0, 1), (1, 0), (1, 1), ("a", (0,)), ("b", 1), ("b", 4), (("b", 1),), (("b", 4),), (("a", (0,)),), ONE,
    (("b", (1,)), ("a", (1,))), EXAMPLE[0], EXAMPLE[2], EXAMPLE[5], EXAMPLE[:1], EXAMPLE, TAKEN, ("solution", (0, 1)),
]


def with_step_ahead(steps, step):
    """The steps with another one ahead of them, and their numbers changed accordingly."""
    moved = [step]
    for each in steps:
        if each[0] == "rule":
            moved.append(each)
        else:
            _, first, pairs, clause = each
            moved.append(("resolve", first + 1, tuple((name, number + 1) for name, number in pairs), clause))
    return tuple(moved)


class PaperTests(unittest.TestCase):
    def assert_same(self, told, rules, paper):
        """Compare with what the tests find themselves, and tell it."""
        taken = judge(told.space, rules, paper)
        self.assertIs(type(taken), bool)
        self.assertEqual(taken, told.takes(rules, paper), (rules, paper))
        return taken

    def assert_taken(self, space, rules, paper):
        self.assertTrue(self.assert_same(Judge(space), rules, paper), paper)

    def assert_not_taken(self, space, rules, paper):
        self.assertFalse(self.assert_same(Judge(space), rules, paper), paper)


class TheExample(PaperTests):
    def test_its_steps_are_taken(self):
        self.assert_taken(PAIR, CLASH, TAKEN)

    def test_it_is_taken_for_these_rules_in_this_order_only(self):
        self.assert_taken(PAIR, CLASH + (DIFFERENT, ("or", ())), TAKEN)
        for rules in (CLASH[::-1], (DIFFERENT,), (EQUAL,), (), (DIFFERENT, DIFFERENT), (EQUAL, EQUAL)):
            self.assert_not_taken(PAIR, rules, TAKEN)

    def test_other_rules_that_imply_its_clauses(self):
        self.assert_taken(PAIR, (("sum", ((1, "a"), (1, "b")), "=", 1), ("table", ("a", "b"), ((0, 0), (1, 1)))), TAKEN)
        self.assert_taken(PAIR, (DIFFERENT, ("or", ())), TAKEN)
        self.assert_not_taken(PAIR, (DIFFERENT, ("sum", ((1, "a"), (-1, "b")), "<=", 0)), TAKEN)

    def test_steps_that_are_not_needed(self):
        whole = (("a", (0, 1)),)
        for step in (
            EXAMPLE[0], ("rule", 0, whole), ("rule", 1, (("a", (0, 1)), ("b", (0, 1)))), ("rule", 1, (("b", (0, 1)),)),
            ("rule", 0, (("a", (0,)), ("b", (0, 1)))),
        ):
            self.assert_taken(PAIR, CLASH, ("refuted", with_step_ahead(EXAMPLE, step)))
            self.assert_taken(PAIR, CLASH, ("refuted", with_step_ahead(with_step_ahead(EXAMPLE, step), step)))
        for step in (
            EXAMPLE[4], ("rule", 0, whole), ("resolve", 0, (), EXAMPLE[0][2]), ("resolve", 4, (), EXAMPLE[4][2]),
            ("resolve", 2, (("a", 2),), ONE), ("resolve", 2, (("b", 1), ("a", 0)), EXAMPLE[0][2]),
            ("resolve", 1, (("b", 4),), (("a", (0, 1)),)),
        ):
            self.assert_taken(PAIR, CLASH, ("refuted", EXAMPLE[:5] + (step,) + EXAMPLE[5:]))
        self.assert_taken(PAIR, CLASH, ("refuted", EXAMPLE + (EXAMPLE[5],)))
        self.assert_taken(PAIR, CLASH, ("refuted", EXAMPLE + (("resolve", 5, (), ()),)))
        self.assert_taken(PAIR, CLASH, ("refuted", EXAMPLE + EXAMPLE[:1] + (("resolve", 5, (("b", 5), ("a", 5)), ()),)))

    def test_steps_that_are_missing(self):
        for at in range(len(EXAMPLE)):
            self.assert_not_taken(PAIR, CLASH, ("refuted", EXAMPLE[:at]))
            self.assert_not_taken(PAIR, CLASH, ("refuted", EXAMPLE[:at] + EXAMPLE[at + 1:]))
        self.assert_not_taken(PAIR, CLASH, ("refuted", EXAMPLE[::-1]))

    def test_the_last_clause_is_the_empty_one(self):
        for step in EXAMPLE[:5] + (("resolve", 4, (), EXAMPLE[4][2]), ("rule", 0, (("a", (0, 1)),))):
            self.assert_not_taken(PAIR, CLASH, ("refuted", EXAMPLE + (step,)))

    def test_each_place_turned_into_something_else(self):
        told = Judge(PAIR)
        for steps, least in ((EXAMPLE, 1), (with_step_ahead(EXAMPLE, ("rule", 0, (("a", (0, 1)),))), 20)):
            original = ("refuted", steps)
            found = [paper for paper in with_parts_replaced(original, OTHERS) if self.assert_same(told, CLASH, paper)]
            # Where a part is replaced by its like, and in a step that is not needed by what holds, too.
            self.assertIn(original, found)
            self.assertGreaterEqual(len(found), least)
            self.assertLess(len(found), 200)
            self.assertTrue(all(type(paper) is tuple and paper[0] == "refuted" for paper in found))

    def test_tuples_that_are_too_short_or_too_long(self):
        told = Judge(PAIR)
        found = [paper for paper in with_other_lengths(TAKEN) if self.assert_same(told, CLASH, paper)]
        # Each of the three pairs may stand twice, and so may the last two steps, behind which no number is told.
        self.assertEqual(len(found), 5)
        self.assertIn(("refuted", EXAMPLE + EXAMPLE[5:]), found)
        for pair in (("b",), ("b", 1, 1), ("b", 1, None), (1,), (), ("b", 1, "b", 1), (("b", 1),)):
            self.assert_not_taken(PAIR, CLASH, ("refuted", EXAMPLE[:2] + (("resolve", 0, (pair,), ONE),) + EXAMPLE[3:]))

    def test_steps_that_name_themselves_or_a_later_step(self):
        steps = list(EXAMPLE)
        for at in (2, 5):
            _, first, pairs, clause = steps[at]
            for number in range(-8, 9):
                turned = ((pairs[0][0], number),) + pairs[1:]
                for changed in (
                    ("resolve", number, pairs, clause), ("resolve", first, turned, clause),
                    ("resolve", first, pairs + (("a", number),), clause), ("resolve", number, (), clause),
                ):
                    paper = ("refuted", tuple(steps[:at] + [changed] + steps[at + 1:]))
                    taken = self.assert_same(Judge(PAIR), CLASH, paper)
                    if not 0 <= number < at:
                        self.assertFalse(taken, changed)
        self.assert_not_taken(PAIR, CLASH, ("refuted", (("resolve", 0, (), ()),)))
        self.assert_not_taken(PAIR, CLASH, ("refuted", (("resolve", 1, (), ()), ("resolve", 0, (), ()))))
        self.assert_not_taken(PAIR, CLASH, ("refuted", (EXAMPLE[0], ("resolve", 0, (("a", 1), ("b", 1)), ()))))

    def test_rules_that_there_are_not(self):
        for index in (-2, -1, 2, 3, 10 ** 30, -10 ** 30, True, False, None, "0", 0.0, 1.0, (1,)):
            for clause in (EXAMPLE[0][2], (("a", (0, 1)),)):
                self.assert_not_taken(PAIR, CLASH, ("refuted", (("rule", index, clause),) + EXAMPLE[1:]))
        self.assert_not_taken(PAIR, (), ("refuted", (("rule", 0, ()),)))
        self.assert_not_taken(PAIR, (), ("refuted", (("rule", -1, ()),)))


class Clauses(PaperTests):
    RULES = (("table", ("a", "b"), ((1, 3), (3, 5))), ("in", "a", (5, 7)))
    SPACE = Space((("b", (1, 3, 5)), ("a", (1, 3, 5))))
    STEPS = (("rule", 0, (("b", (3, 5)), ("a", (1, 3)))), ("rule", 0, (("a", (1, 3)),)), ("rule", 1, (("a", (5,)),)),
             ("resolve", 1, (("a", 2),), ()))

    def with_clause(self, clause):
        return ("refuted", (("rule", 0, clause),) + self.STEPS[1:])

    def test_the_clauses_of_rules(self):
        self.assert_taken(self.SPACE, self.RULES, ("refuted", self.STEPS))
        for clause in ((("b", (3, 5)),), (("a", (1, 3)),), (("b", (1, 3, 5)),), (("b", (3,)), ("a", (3,))),
                       (("b", (3, 5)), ("a", (5,)))):
            self.assert_taken(self.SPACE, self.RULES, self.with_clause(clause))
        for clause in ((), (("b", (3,)),), (("a", (1,)),), (("a", (3, 5)),), (("b", (1, 3)), ("a", (1,)))):
            self.assert_not_taken(self.SPACE, self.RULES, self.with_clause(clause))

    def test_what_is_no_clause(self):
        for clause in (
            (("a", (1, 3)), ("b", (3, 5))), (("b", (3, 5)), ("a", (3, 1))), (("b", (3, 5)), ("a", (1, 1, 3))),
            (("b", (3, 5)), ("b", (3, 5)), ("a", (1, 3))), (("b", (3, 5)), ("a", (1,)), ("a", (3,))),
            (("b", (3, 5)), ("a", ())), (("b", (3, 5, 7)), ("a", (1, 3))), (("b", (2, 3, 5)),), (("c", (1, 3, 5)),),
            (("b", [3, 5]),), [("b", (3, 5))], (["b", (3, 5)],), (("b", (3, 5), ()),), (("b",),), ("b", (3, 5)),
            (("b", (3, 5)), ("a", (True, 3))), (("b", (3, 5)), ()), (("b", (3, 5)), None), {"b": (3, 5)}, "b", None, 0,
        ):
            self.assert_not_taken(self.SPACE, self.RULES, self.with_clause(clause))

    def test_each_clause_for_each_rule(self):
        # The steps behind the first one do without it, so that just this one is looked at.
        told = Judge(SPACE)
        found = []
        for rule in RULES[::3]:
            for clause in every_clause(SPACE)[::3]:
                rules = (rule, ("or", ()))
                found.append(self.assert_same(told, rules, ("refuted", (("rule", 0, clause), ("rule", 1, ())))))
        self.assertGreater(found.count(True), 100)
        self.assertGreater(found.count(False), 100)

    def test_each_clause_as_the_resolvent(self):
        told = Judge(PAIR)
        clauses = every_clause(PAIR)
        rules = (("or", ()),)
        for first in clauses:
            for second in clauses:
                for name in ("a", "b"):
                    taken = [clause for clause in clauses if self.assert_same(told, rules, ("refuted", (
                        ("rule", 0, first), ("rule", 0, second), ("resolve", 0, ((name, 1),), clause), ("rule", 0, ()),
                    )))]
                    self.assertEqual(len(taken), 1)

    def test_several_pairs_are_resolved_one_after_the_other(self):
        rules = (("or", ()),)
        first, second, third = (("a", (0,)), ("b", (0,))), (("a", (1,)), ("b", (0,))), (("a", (0,)), ("b", (1,)))
        for pairs, clause in (
            ((("a", 1), ("b", 2)), (("a", (0,)),)),
            ((("b", 2), ("a", 1)), (("b", (0,)),)),
            ((("a", 1), ("a", 2)), (("b", (0, 1)),)),
            ((("b", 1), ("b", 2)), (("a", (0, 1)),)),
            ((("a", 0),), (("a", (0,)), ("b", (0,)))),
        ):
            for told in every_clause(PAIR):
                steps = tuple(("rule", 0, each) for each in (first, second, third))
                paper = ("refuted", steps + (("resolve", 0, pairs, told), ("rule", 0, ())))
                self.assertEqual(self.assert_same(Judge(PAIR), rules, paper), told == clause, (pairs, told))


class NoPapers(PaperTests):
    def test_things_that_are_no_papers(self):
        for rules in ((), (DIFFERENT,), CLASH):
            for thing in strange_values() + OTHERS:
                for paper in (
                    thing, (thing,), [thing], (thing, (0, 1)), (thing, EXAMPLE), ("solution", thing),
                    ("solution", (0, 1), thing), ("refuted", thing), ("refuted", EXAMPLE, thing), ("refuted", (thing,)),
                    ("refuted", EXAMPLE + (thing,)), ("refuted", (thing,) + EXAMPLE),
                ):
                    self.assert_same(Judge(PAIR), rules, paper)

    def test_lists_in_the_place_of_tuples(self):
        self.assert_taken(PAIR, (DIFFERENT,), ("solution", (0, 1)))
        for paper in (["solution", (0, 1)], ("solution", [0, 1]), ["refuted", EXAMPLE], ("refuted", list(EXAMPLE)),
                      ("refuted", tuple(list(step) for step in EXAMPLE))):
            self.assert_not_taken(PAIR, (DIFFERENT,), paper)
            self.assert_not_taken(PAIR, CLASH, paper)

    def test_papers_of_other_kinds(self):
        for paper in (
            ("first", (0, 1), ()), ("best", (0, 1), ()), ("first", (0, 1)), ("best", (0, 1)), ("Solution", (0, 1)), (),
            ("solution",), ("refuted",), ("solution", 0, 1), ("refuted", *EXAMPLE), (("solution", (0, 1)),),
        ):
            self.assert_not_taken(PAIR, (DIFFERENT,), paper)
            self.assert_not_taken(PAIR, CLASH, paper)

    def test_things_that_are_nested_deeply(self):
        deep = ()
        for _ in range(5000):
            deep = (deep,)
        for paper in (deep, ("solution", deep), ("refuted", deep), ("refuted", (("rule", 0, deep),)),
                      ("refuted", EXAMPLE[:2] + (("resolve", 0, deep, ONE),)), (deep, EXAMPLE)):
            self.assertIs(judge(PAIR, CLASH, paper), False)

    def test_a_list_that_contains_itself(self):
        endless = []
        endless.append(endless)
        for paper in (endless, ("refuted", endless), ("solution", endless), ("refuted", (endless,)),
                      ("refuted", (("rule", 0, (endless,)),)), (endless, EXAMPLE)):
            self.assertIs(judge(PAIR, CLASH, paper), False)


class BothKinds(PaperTests):
    def test_each_assignment_for_each_rule(self):
        told = Judge(SPACE)
        for rule in RULES:
            for row in every_assignment(SPACE):
                for rules in ((rule,), (("in", "c", (0, 1, 3)), rule), (rule, ("in", "a", (1,)))):
                    self.assert_same(told, rules, ("solution", row))

    def test_assignments_of_the_space_only(self):
        self.assert_taken(PAIR, (), ("solution", (0, 1)))
        for value in (
            (0,), (0, 1, 0), (0, 2), (2, 0), (True, 0), (0, False), (0.0, 1), (None, 0), [0, 1], (), None, "01",
        ):
            self.assert_not_taken(PAIR, (), ("solution", value))
        for paper in with_parts_replaced(("solution", (1, 2)), OTHERS):
            self.assert_same(Judge(Space((("a", (1, 4)), ("b", (2, 3))))), (), paper)

    def test_papers_for_no_rules(self):
        for space in (PAIR, SPACE):
            for row in every_assignment(space):
                self.assert_taken(space, (), ("solution", row))
            self.assert_taken(space, (), paper_of(space, ()))
        for steps in (EXAMPLE, (), (("rule", 0, ()),), (("resolve", 0, (), ()),), (("resolve", 0, (("a", 0),), ()),)):
            self.assert_not_taken(PAIR, (), ("refuted", steps))

    def test_a_rule_that_is_never_satisfied(self):
        for rule in (("or", ()), ("in", "a", (7,)), ("sum", ((2, "a"), (2, "b")), "=", 3)):
            self.assert_taken(PAIR, (rule,), ("refuted", (("rule", 0, ()),)))
            self.assert_taken(PAIR, (EQUAL, rule), ("refuted", (("rule", 0, EXAMPLE[0][2]), ("rule", 1, ()))[1:]))
            self.assert_not_taken(PAIR, (EQUAL, rule), ("refuted", (("rule", 0, ()),)))
            for row in every_assignment(PAIR):
                self.assert_not_taken(PAIR, (rule,), ("solution", row))

    def test_papers_of_just_one_kind_are_taken(self):
        for space, all_rules, many in ((SPACE, RULES, 250), (SIX, SIX_RULES, 25)):
            told = Judge(space)
            papers = [("solution", row) for row in told.rows[::7]]
            kinds = []
            for rules, order in drawn(space, all_rules, many, 6):
                made = paper_of(space, rules)
                self.assertTrue(self.assert_same(told, rules, made))
                self.assertTrue(self.assert_same(told, rules, solve(space, rules, order)))
                kinds.append(made[0])
                papers = [made] + papers[:30]
                for paper in papers:
                    if self.assert_same(told, rules, paper):
                        self.assertEqual(paper[0], made[0])
            for kind in ("solution", "refuted"):
                self.assertGreater(kinds.count(kind), many // 10)

    def test_refutations_for_other_rules(self):
        # Steps that refute some rules are shown for all other pairs of rules, too.
        told = Judge(PAIR)
        rules = [DIFFERENT, EQUAL, ("or", ()), ("in", "a", (0,)), ("in", "a", (1,)), ("or", (("a", (1,)), ("b", (0,)))),
                 ("sum", ((1, "a"), (1, "b")), ">=", 2), ("if", ("a", (1,)), ("in", "b", (0,)))]
        pairs = [(first, second) for first in rules for second in rules]
        made = [paper_of(PAIR, pair) for pair in pairs]
        taken = 0
        for paper in made:
            for pair in pairs:
                taken += self.assert_same(told, pair, paper)
        self.assertGreater(taken, len(pairs))

    def test_drawn_steps(self):
        draws = random.Random(17)
        told = Judge(PAIR)
        clauses = every_clause(PAIR)
        implied = [step[2] for step in EXAMPLE if step[0] == "rule"]
        taken = 0
        for _ in range(4000):
            steps = []
            for number in range(draws.randrange(1, 7)):
                if number == 0 or draws.randrange(2):
                    steps.append(("rule", draws.randrange(2), draws.choice(implied)))
                else:
                    pairs = tuple((draws.choice("ab"), draws.randrange(number)) for _ in range(draws.randrange(3)))
                    clause = draws.choice([draws.choice(clauses), (), ONE])
                    steps.append(("resolve", draws.randrange(number), pairs, clause))
            for paper in (("refuted", tuple(steps)), ("refuted", tuple(steps) + (("rule", 2, ()),))):
                taken += self.assert_same(told, CLASH + (("or", ()),), paper)
        self.assertGreater(taken, 100)


class Makers(PaperTests):
    def test_ordinary_papers(self):
        self.assertEqual(paper_of(PAIR, (DIFFERENT,)), ("solution", (0, 1)))
        self.assertEqual(paper_of(PAIR, CLASH)[0], "refuted")
        self.assert_taken(PAIR, CLASH, paper_of(PAIR, CLASH))

    def test_long_refutations(self):
        space = grid(4, (0, 1, 2, 3))
        rules = tuple(("sum", ((1, "abcd"[(at + 1) % 4]), (-1, "abcd"[at])), "=", 1) for at in range(4))
        self.assert_taken(space, rules, paper_of(space, rules))
        space = grid(5, (0, 1, 2, 3))
        rules = tuple(("different", (one, two)) for two in "abcde" for one in "abcde" if one < two)
        paper = paper_of(space, rules)
        self.assert_taken(space, rules, paper)
        self.assert_not_taken(space, rules[1:], paper)

    def test_refutations_by_each_order(self):
        for order in ORDERS:
            rules = (("sum", ((1, "c"), (1, "b")), "=", 4), ("different", ("a", "c")), ("in", "b", (1, 15)),
                     ("in", "a", (1,)), ("count", ("a", "b", "c"), (1, 2), (0, 1)))
            paper = solve(SPACE, rules, order)
            self.assert_taken(SPACE, rules, paper)

    def test_something_that_is_no_rule(self):
        for bad in BAD_RULES:
            with self.assertRaises(BadRule):
                paper_of(PAIR, (DIFFERENT, bad))


if __name__ == "__main__":
    unittest.main()
