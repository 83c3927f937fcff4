"""Points 8 to 10: what a rule leaves of domains, its explanations, and the clauses that it implies."""

import random
import unittest

from clashproved.clauses import is_clause
from clashproved.narrowing import explanation, filtered, is_consistent, is_implied
from clashproved.rules import check_rule, names_of
from clashproved.spaces import Space
from tests.brute import Brute, every_clause, every_domains, subsets
from tests.samples import RULES, SIX, SIX_RULES, SPACE

KINDS = {"in", "sum", "different", "equal", "table", "count", "element", "or", "if"}
FULL = tuple(values for _, values in SPACE.variables)
PAIR = Space((("a", (0, 1)), ("b", (0, 1))))


def drawn_domains(space, many):
    """Some domains, always the same ones: mostly with a few values left, a few of them empty."""
    draws = random.Random(2026)
    found = [tuple(values for _, values in space.variables)]
    while len(found) < many:
        keep = draws.random()
        rows = [tuple(value for value in values if draws.random() < keep) for _, values in space.variables]
        found.append(tuple(rows))
        # Most rules tell little if there is an empty domain, so that each draw is taken without one, too.
        found.append(tuple(row or values[-1:] for row, (_, values) in zip(rows, space.variables)))
    return found


class Words:
    """Points 8 and 9 word for word, for one rule, by looking at all assignments that satisfy it."""

    def __init__(self, brute, rule):
        self.brute = brute
        self.space = brute.space
        self.names = names_of(brute.space, rule)
        self.rows = brute.of_rule(rule)

    def is_consistent(self, domains):
        return self.rows & self.brute.within(domains, self.names) != 0

    def filtered(self, domains):
        found = []
        for place, domain in enumerate(domains):
            alone = {value: domains[:place] + ((value,),) + domains[place + 1:] for value in domain}
            found.append(tuple(value for value in domain if self.is_consistent(alone[value])))
        return tuple(found)

    def explanation(self, domains):
        dropped = []
        for name in self.names:
            if not self.is_consistent(self.widened(domains, dropped + [name])):
                dropped.append(name)
        return tuple(
            (name, tuple(value for value in values if value not in domain))
            for (name, values), domain in zip(self.space.variables, domains)
            if name in self.names and name not in dropped
        )

    def widened(self, domains, names):
        rows = zip(self.space.variables, domains)
        return tuple(values if name in names else domain for (name, values), domain in rows)


SAMPLES = [(Words(Brute(SPACE), rule), rule, every_domains(SPACE)) for rule in RULES]
SAMPLES += [(Words(brute, rule), rule, drawn_domains(SIX, 60)) for brute in [Brute(SIX)] for rule in SIX_RULES]


class TheSamples(unittest.TestCase):
    def test_all_kinds_are_among_them(self):
        for space, rules in ((SPACE, RULES), (SIX, SIX_RULES)):
            for rule in rules:
                check_rule(space, rule)
            self.assertEqual({rule[0] for rule in rules}, KINDS)
            self.assertEqual({rule[2][0] for rule in rules if rule[0] == "if"} | {"if"}, KINDS)

    def test_each_kind_is_consistent_and_inconsistent(self):
        for kind in KINDS:
            found = {
                words.is_consistent(domains) for words, rule, rows in SAMPLES if rule[0] == kind
                for domains in rows if () not in domains
            }
            self.assertEqual(found, {True, False}, kind)


class Consistency(unittest.TestCase):
    def test_against_all_values_of_the_variables_of_the_rule(self):
        for words, rule, rows in SAMPLES:
            for domains in rows:
                found = is_consistent(words.space, rule, domains)
                self.assertIs(found, words.is_consistent(domains), (rule, domains))

    def test_a_variable_of_the_rule_with_an_empty_domain(self):
        for words, rule, _ in SAMPLES:
            space = words.space
            for name in words.names:
                domains = tuple(() if other == name else values for other, values in space.variables)
                self.assertIs(is_consistent(space, rule, domains), False, (rule, name))

    def test_variables_that_are_not_in_the_rule_do_not_matter(self):
        for words, rule, rows in SAMPLES:
            space = words.space
            for domains in rows[::7]:
                other = tuple(row if name in words.names else () for name, row in zip(space.names, domains))
                self.assertIs(is_consistent(space, rule, other), is_consistent(space, rule, domains), (rule, domains))

    def test_a_variable_of_an_if_counts_even_where_it_decides_nothing(self):
        rule = ("if", ("a", (7,)), ("in", "b", (1, 2, 15)))
        self.assertIs(is_consistent(SPACE, rule, ((), (0,), (1,))), True)
        self.assertIs(is_consistent(SPACE, rule, ((0,), (), (1,))), False)
        self.assertIs(is_consistent(SPACE, rule, ((0,), (0,), ())), False)

    def test_a_variable_in_a_place_that_the_index_never_tells_counts(self):
        rule = ("element", "a", ("c", "c", "b"), "c")
        self.assertIs(is_consistent(SPACE, rule, ((0,), (0, 1), (1,))), True)
        self.assertIs(is_consistent(SPACE, rule, ((0,), (0, 1), ())), False)

    def test_or_without_literals(self):
        for domains in every_domains(SPACE):
            self.assertIs(is_consistent(SPACE, ("or", ()), domains), False)
        rule = ("if", ("a", (1,)), ("or", ()))
        self.assertIs(is_consistent(SPACE, rule, ((), (0, 1), ())), True)
        self.assertIs(is_consistent(SPACE, rule, ((0,), (1,), (1,))), False)

    def test_sums_of_two_different_values_reach_only_some_numbers(self):
        space = Space((("a", (0, 7)), ("b", (0, 11))))
        for number in range(-5, 60):
            rule = ("sum", ((2, "a"), (3, "b")), "=", number)
            self.assertIs(is_consistent(space, rule, ((0, 7), (0, 11))), number in (0, 14, 33, 47))
            self.assertIs(is_consistent(space, rule, ((0, 7), (11,))), number in (33, 47))

    def test_six_variables_with_five_values_are_not_different(self):
        space = Space(tuple((name, (0, 1, 2, 3, 4, 5)) for name in "abcdef"))
        rule = ("different", tuple("abcdef"))
        self.assertIs(is_consistent(space, rule, ((0, 1, 2, 3, 4),) * 6), False)
        self.assertIs(is_consistent(space, rule, ((0, 1, 2, 3, 4),) * 5 + ((0, 5),)), True)
        self.assertIs(is_consistent(space, rule, ((0, 1), (2, 3, 4), (0, 1), (2, 3), (0, 1), (3, 4))), False)
        self.assertIs(is_consistent(space, rule, ((0, 1), (2, 3, 4), (0, 1), (2, 3), (0, 5), (3, 4))), True)


class Filtering(unittest.TestCase):
    def test_against_all_values_of_the_variables_of_the_rule(self):
        for words, rule, rows in SAMPLES:
            for domains in rows:
                self.assertEqual(filtered(words.space, rule, domains), words.filtered(domains), (rule, domains))

    def test_nothing_is_left_for_any_variable_by_an_inconsistent_rule(self):
        for rule, domains in (
            (("in", "a", (1,)), ((0, 1, 2, 3), (0,), (1, 2, 15))),
            (("in", "a", (0, 1)), ((0, 1, 2, 3), (), (1, 2, 15))),
            (("equal", ("a", "b")), ((0, 1, 2, 3), (0, 1), (2, 15))),
            (("or", ()), FULL),
        ):
            self.assertEqual(filtered(SPACE, rule, domains), ((), (), ()))

    def test_a_consistent_rule_leaves_other_domains_as_they_are(self):
        rule = ("in", "a", (1,))
        for domains in every_domains(SPACE):
            if 1 in domains[1]:
                self.assertEqual(filtered(SPACE, rule, domains), (domains[0], (1,), domains[2]))

    def test_an_empty_domain_of_a_variable_that_is_not_in_the_rule(self):
        self.assertEqual(filtered(SPACE, ("equal", ("a", "c")), ((0, 2), (0, 1), ())), ((0,), (0,), ()))

    def test_small_cases(self):
        cases = [
            (("sum", ((1, "c"), (1, "b")), "=", 4), ((0, 1, 2, 3), (0, 1), (1, 2, 15)), ((2, 3), (0, 1), (1, 2))),
            (("different", ("a", "c")), ((0, 1), (1,), (15,)), ((0,), (1,), (15,))),
            (("table", ("b", "a"), ((15, 0), (2, 1), (1, 1))), ((3,), (1,), (1, 15)), ((3,), (1,), (1,))),
            (("count", ("a", "b"), (1,), (2,)), FULL, ((0, 1, 2, 3), (1,), (1,))),
            (("element", "c", ("b", "a"), "a"), ((0, 1, 2), (0,), (1, 2)), ((1,), (0,), (1, 2))),
            (("if", ("a", (1,)), ("in", "c", (3,))), ((0, 1), (0, 1), ()), ((0, 1), (0,), ())),
            (("or", (("a", (1,)), ("c", (5,)))), FULL, ((0, 1, 2, 3), (1,), (1, 2, 15))),
        ]
        for rule, domains, left in cases:
            with self.subTest(rule=rule):
                self.assertEqual(filtered(SPACE, rule, domains), left)

    def test_filtering_twice_leaves_the_same(self):
        for words, rule, rows in SAMPLES:
            for domains in rows[::5]:
                left = filtered(words.space, rule, domains)
                self.assertEqual(filtered(words.space, rule, left), left)


class Explanations(unittest.TestCase):
    def inconsistent(self):
        for words, rule, rows in SAMPLES:
            for domains in rows:
                if not words.is_consistent(domains):
                    yield words, rule, domains

    def test_the_clause_is_made_by_the_words_of_the_point(self):
        for words, rule, domains in self.inconsistent():
            found = explanation(words.space, rule, domains)
            self.assertEqual(found, words.explanation(domains), (rule, domains))

    def test_the_rule_implies_the_clause_and_needs_each_literal(self):
        for words, rule, domains in self.inconsistent():
            clause = explanation(words.space, rule, domains)
            self.assertIs(is_clause(words.space, clause), True, (rule, domains))
            self.assertIs(is_implied(words.space, rule, clause), True, (rule, domains))
            self.assertEqual(words.rows & ~words.brute.of_clause(clause), 0, (rule, domains))
            for at in range(len(clause)):
                shorter = clause[:at] + clause[at + 1:]
                self.assertIs(is_implied(words.space, rule, shorter), False, (rule, domains, shorter))

    def test_no_assignment_out_of_the_domains_satisfies_it(self):
        for words, rule, domains in self.inconsistent():
            clause = explanation(words.space, rule, domains)
            within = words.brute.within(domains, words.space.names)
            self.assertEqual(within & words.brute.of_clause(clause), 0, (rule, domains))

    def test_a_rule_that_is_never_satisfied(self):
        never = [
            ("or", ()),
            ("in", "a", (2, 15)),
            ("or", (("a", (5,)), ("b", (0, 3)))),
            ("sum", ((2, "a"), (2, "c")), "=", 3),
            ("table", ("a", "b"), ((2, 2), (0, 0))),
            ("if", ("a", (0, 1)), ("or", ())),
        ]
        for rule in never:
            for domains in every_domains(SPACE):
                self.assertEqual(explanation(SPACE, rule, domains), (), (rule, domains))

    def test_variables_are_dropped_in_the_order_of_the_space(self):
        # One of the two suffices: the first one of the space is dropped, wherever it stands in the rule.
        for rule in (("equal", ("c", "a", "b")), ("equal", ("b", "a", "c"))):
            found = explanation(SPACE, rule, ((3,), (0,), (1, 2, 15)))
            self.assertEqual(found, (("a", (1,)),))
        found = explanation(PAIR, ("table", ("b", "a"), ((0, 0),)), ((1,), (1,)))
        self.assertEqual(found, (("b", (0,)),))

    def test_an_empty_domain_is_explained_by_all_values(self):
        self.assertEqual(explanation(PAIR, ("different", ("a", "b")), ((), (0, 1))), (("a", (0, 1)),))
        self.assertEqual(explanation(PAIR, ("different", ("a", "b")), ((0,), ())), (("b", (0, 1)),))
        self.assertEqual(explanation(PAIR, ("different", ("a", "b")), ((), ())), (("b", (0, 1)),))

    def test_the_clauses_of_the_example_of_point_13(self):
        different, equal = ("different", ("a", "b")), ("equal", ("a", "b"))
        self.assertEqual(explanation(PAIR, equal, ((0,), (1,))), (("a", (1,)), ("b", (0,))))
        self.assertEqual(explanation(PAIR, different, ((0,), (0,))), (("a", (1,)), ("b", (1,))))
        self.assertEqual(explanation(PAIR, equal, ((1,), (0,))), (("a", (0,)), ("b", (1,))))
        self.assertEqual(explanation(PAIR, different, ((1,), (1,))), (("a", (0,)), ("b", (0,))))

    def test_domains_of_variables_that_are_not_in_the_rule_do_not_stand_in_it(self):
        rule = ("equal", ("a", "c"))
        for domain in subsets((1, 2, 15)):
            self.assertEqual(explanation(SPACE, rule, ((2, 3), (0, 1), domain)), (("c", (0, 1)),))


class ImpliedClauses(unittest.TestCase):
    def test_each_clause_against_all_assignments(self):
        brute = Brute(SPACE)
        clauses = [(clause, brute.of_clause(clause)) for clause in every_clause(SPACE)]
        for rule in RULES:
            rows = brute.of_rule(rule)
            for clause, satisfying in clauses:
                self.assertIs(is_implied(SPACE, rule, clause), rows & ~satisfying == 0, (rule, clause))

    def test_drawn_clauses_of_six_variables(self):
        brute = Brute(SIX)
        drawn = [
            tuple((name, row) for name, row in zip(SIX.names, domains) if row) for domains in drawn_domains(SIX, 80)
        ]
        for rule in SIX_RULES:
            rows = brute.of_rule(rule)
            found = [is_implied(SIX, rule, clause) for clause in drawn]
            self.assertEqual(found, [rows & ~brute.of_clause(clause) == 0 for clause in drawn], rule)

    def test_all_values_of_a_variable_are_implied_by_each_rule(self):
        for rule in RULES:
            for literal in SPACE.variables:
                self.assertIs(is_implied(SPACE, rule, (literal,)), True, (rule, literal))
            self.assertIs(is_implied(SPACE, rule, (("c", (1,)), ("b", (1, 2, 15)))), True, rule)

    def test_the_empty_clause_is_implied_by_what_is_never_satisfied(self):
        brute = Brute(SPACE)
        for rule in RULES:
            self.assertIs(is_implied(SPACE, rule, ()), brute.of_rule(rule) == 0, rule)

    def test_clauses_of_variables_that_the_rule_has_not(self):
        rule = ("in", "a", (1,))
        self.assertIs(is_implied(SPACE, rule, (("c", (0, 1, 2)), ("b", (1, 2)))), False)
        self.assertIs(is_implied(SPACE, rule, (("c", (0, 1, 2, 3)), ("b", (1, 2)))), True)
        self.assertIs(is_implied(SPACE, rule, (("a", (1,)), ("b", (1,)))), True)
        self.assertIs(is_implied(SPACE, rule, (("a", (0,)), ("b", (1,)))), False)
        self.assertIs(is_implied(SPACE, ("or", ()), (("b", (1,)),)), True)


if __name__ == "__main__":
    unittest.main()
