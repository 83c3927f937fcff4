"""Points 1 to 3 and the interface: arguments are not changed, lists are new, names stand where they are listed."""

import inspect
import os
import re
import unittest

import clashproved
from clashproved import clauses, cores, desks, errors, narrowing, papers, rules, search, spaces
from clashproved.clauses import is_clause, resolvent, satisfies_clause, values_in
from clashproved.cores import best, least_core, possible_values, solutions, why_not
from clashproved.desks import Desk
from clashproved.errors import BadOrder, BadRule, BadSpace, BadTerms, NoSuchName
from clashproved.narrowing import explanation, filtered, is_consistent, is_implied
from clashproved.papers import explain_best, explain_first, judge, judge_best, judge_first, paper_of
from clashproved.rules import check_rule, names_of, satisfies, worth_of
from clashproved.search import solve
from clashproved.spaces import Space, all_assignments, check_order, is_before, ordered_values, whole_order

VARIABLES = (("a", (0, 1)), ("b", (2, 5)))
ORDER = (("b", "down"),)
SUM = ("sum", ((2, "a"), (-1, "b")), "<=", -3)
SUM_TOO_GREAT = ("sum", ((1, "a"), (1, "b")), ">=", 6)
IF = ("if", ("b", (5,)), ("table", ("a",), ((0,), (7,))))
CLAUSE = (("a", (0,)), ("b", (2,)))
TERMS = ((1, "a"), (-2, "b"))
RULES = (SUM, IF)
CLASH = (SUM, IF, SUM_TOO_GREAT)
NEVER = (("rule", 0, ()),)


def on_desk(name):
    """A call of a method of a desk with some rules."""
    def call(space, *arguments):
        desk = Desk(space)
        desk.add(SUM)
        desk.push()
        desk.add(IF)
        return getattr(desk, name)(*arguments)

    return call


CALLS = [
    (check_order, (ORDER,)),
    (whole_order, (ORDER,)),
    (is_before, (ORDER, (0, 2), (0, 5))),
    (ordered_values, ("b", "down")),
    (all_assignments, (ORDER,)),
    (check_rule, (SUM,)),
    (names_of, (SUM,)),
    (satisfies, (SUM, (1, 5))),
    (worth_of, (((2, "a"), (-1, "b")), (1, 5))),
    (Space.place_of, ("b",)),
    (Space.values_of, ("b",)),
    (Space.is_assignment, ((0, 5),)),
    (Space.__len__, ()),
    (is_clause, (CLAUSE,)),
    (lambda space, clause, name: values_in(clause, name), (CLAUSE, "b")),
    (satisfies_clause, (CLAUSE, (1, 5))),
    (resolvent, (CLAUSE, (("a", (1,)), ("b", (2, 5))), "a")),
    (is_consistent, (SUM, ((0, 1), (2,)))),
    (is_consistent, (IF, ((1,), (5,)))),
    (filtered, (SUM, ((0, 1), (2, 5)))),
    (filtered, (IF, ((1,), (2, 5)))),
    (explanation, (SUM, ((0, 1), (2,)))),
    (explanation, (IF, ((1,), (5,)))),
    (is_implied, (SUM, (("b", (5,)),))),
    (is_implied, (IF, CLAUSE)),
    (solve, (RULES, ORDER)),
    (solve, (CLASH, ORDER)),
    (judge, (RULES, ("solution", (0, 5)))),
    (judge, (CLASH, ["refuted", [NEVER, {"rule": 0}]])),
    (judge, (CLASH, ("refuted", (("rule", 0, [("a", [0])]), ["resolve", 0, [], ()])))),
    (judge_first, (RULES, ORDER, ("first", [0, 5], [NEVER]))),
    (judge_first, (RULES, ORDER, ("first", (0, 5), [NEVER]))),
    (judge_best, (RULES, TERMS, "least", ("best", (0, 5), [list(NEVER[0])]))),
    (judge_best, (RULES, TERMS, "greatest", ("best", (0, 5), NEVER))),
    (paper_of, (CLASH,)),
    (explain_first, (RULES, (("a", "down"),))),
    (explain_best, (RULES, TERMS, "greatest")),
    (least_core, (CLASH,)),
    (why_not, (RULES, "a", 1)),
    (possible_values, (RULES,)),
    (solutions, (RULES, ORDER)),
    (best, (RULES, TERMS, "least", ORDER)),
    (on_desk("add"), (SUM_TOO_GREAT,)),
    (on_desk("remove"), (0,)),
    (on_desk("ask"), ((("a", (0,)), ("b", (2, 5, 9))), ORDER)),
    (on_desk("ask"), ((("a", (1,)), ("b", (2,))), ORDER)),
    (on_desk("best"), (TERMS, "least", ORDER)),
    (on_desk("foresee"), ((SUM_TOO_GREAT, SUM),)),
    (on_desk("core"), ()),
    (on_desk("possible"), ()),
    (on_desk("pop"), ()),
    (on_desk("undo"), ()),
]
PARAMETERS = {
    spaces.Space: ["variables"],
    spaces.Space.place_of: ["self", "name"],
    spaces.Space.values_of: ["self", "name"],
    spaces.Space.is_assignment: ["self", "value"],
    spaces.check_order: ["space", "order"],
    spaces.whole_order: ["space", "order"],
    spaces.is_before: ["space", "order", "first", "second"],
    spaces.ordered_values: ["space", "name", "direction"],
    spaces.all_assignments: ["space", "order"],
    rules.check_rule: ["space", "rule"],
    rules.names_of: ["space", "rule"],
    rules.satisfies: ["space", "rule", "assignment"],
    rules.worth_of: ["space", "terms", "assignment"],
    errors.NoSuchRule: ["number"],
    clauses.is_clause: ["space", "value"],
    clauses.values_in: ["clause", "name"],
    clauses.satisfies_clause: ["space", "clause", "assignment"],
    clauses.resolvent: ["space", "first", "second", "name"],
    narrowing.is_consistent: ["space", "rule", "domains"],
    narrowing.is_implied: ["space", "rule", "clause"],
    narrowing.filtered: ["space", "rule", "domains"],
    narrowing.explanation: ["space", "rule", "domains"],
    search.solve: ["space", "rules", "order"],
    papers.judge: ["space", "rules", "paper"],
    papers.judge_first: ["space", "rules", "order", "paper"],
    papers.judge_best: ["space", "rules", "terms", "direction", "paper"],
    papers.paper_of: ["space", "rules"],
    papers.explain_first: ["space", "rules", "order"],
    papers.explain_best: ["space", "rules", "terms", "direction"],
    cores.least_core: ["space", "rules"],
    cores.why_not: ["space", "rules", "name", "value"],
    cores.possible_values: ["space", "rules"],
    cores.solutions: ["space", "rules", "order", "most"],
    cores.best: ["space", "rules", "terms", "direction", "order"],
    desks.Desk: ["space"],
    desks.Desk.add: ["self", "rule"],
    desks.Desk.remove: ["self", "number"],
    desks.Desk.push: ["self"],
    desks.Desk.pop: ["self"],
    desks.Desk.undo: ["self"],
    desks.Desk.ask: ["self", "assumptions", "order"],
    desks.Desk.core: ["self"],
    desks.Desk.possible: ["self"],
    desks.Desk.best: ["self", "terms", "direction", "order"],
    desks.Desk.tried: ["self"],
    desks.Desk.foresee: ["self", "rules"],
}
DEFAULTS = {
    search.solve: {"order": ()},
    cores.solutions: {"order": (), "most": 100},
    cores.best: {"order": ()},
    desks.Desk.ask: {"assumptions": (), "order": ()},
    desks.Desk.best: {"order": ()},
}
BY_KEYWORD = {cores.solutions: ["most"]}
LISTED = {
    errors: [
        "ClashError", "NoSuchRule", "BadSpace", "BadOrder", "BadRule", "BadTerms", "NoSuchName", "NothingPushed",
        "TooMany",
    ],
    spaces: ["Space", "check_order", "whole_order", "is_before", "ordered_values", "all_assignments"],
    rules: ["check_rule", "names_of", "satisfies", "worth_of"],
    clauses: ["is_clause", "values_in", "satisfies_clause", "resolvent"],
    narrowing: ["is_consistent", "is_implied", "filtered", "explanation"],
    search: ["solve"],
    papers: ["judge", "judge_first", "judge_best", "paper_of", "explain_first", "explain_best"],
    cores: ["least_core", "why_not", "possible_values", "solutions", "best"],
    desks: ["Desk"],
}


class Arguments(unittest.TestCase):
    def test_no_call_changes_the_space_or_another_argument(self):
        for function, arguments in CALLS:
            with self.subTest(function=function):
                space, kept = Space(VARIABLES), repr(arguments)
                function(space, *arguments)
                self.assertEqual(repr(arguments), kept)
                self.assert_untouched(space)

    def assert_untouched(self, space):
        self.assertEqual(vars(space), vars(Space(VARIABLES)))
        self.assertEqual(space.variables, (("a", (0, 1)), ("b", (2, 5))))
        self.assertEqual(space.names, ("a", "b"))

    def test_a_second_call_tells_the_same(self):
        space = Space(VARIABLES)
        for function, arguments in CALLS:
            first = function(space, *arguments)
            for other, others in CALLS:
                other(space, *others)
            self.assertEqual(function(space, *arguments), first, function)

    def test_wrong_values_that_can_be_changed_stay_as_they_are(self):
        space = Space(VARIABLES)
        cases = [
            (BadSpace, Space, [("b", [1, 0]), ("a", {1: 0})]),
            (BadOrder, lambda value: check_order(space, value), [["b", "down"], ("a", "up")]),
            (BadOrder, lambda value: all_assignments(space, value), (["b", "down"], {"a": "up"})),
            (BadRule, lambda value: check_rule(space, value), ["sum", [(1, "b"), (2, "a")], "=", 0]),
            (BadRule, lambda value: check_rule(space, value), ("or", [("b", [5, 2]), ("a", {1, 0})])),
            (BadRule, lambda value: solve(space, value), [["in", "a", (0,)], SUM]),
            (BadRule, lambda value: solve(space, value, [["b", "down"]]), (SUM, ("or", [("b", [5, 2])]))),
            (BadOrder, lambda value: solve(space, (SUM,), value), [["b", "down"]]),
            (BadOrder, lambda value: judge_first(space, (SUM,), value, None), [["b", "down"]]),
            (BadOrder, lambda value: explain_first(space, (SUM,), value), (["b", "down"], {"a": "up"})),
            (BadOrder, lambda value: solutions(space, (SUM,), value), [["b", "down"]]),
            (BadOrder, lambda value: best(space, (SUM,), TERMS, "least", value), [["b", "down"]]),
            (BadRule, Desk(space).add, ["or", [("b", [5, 2]), ("a", {1, 0})]]),
            (BadRule, Desk(space).ask, (["b", (5,)],)),
            (BadRule, Desk(space).foresee, (SUM, ["in", "b", [5, 2]])),
            (BadTerms, lambda value: Desk(space).best(value, "least"), [[2, "b"], (1, "a")]),
            (NoSuchName, lambda value: why_not(space, (SUM,), value, 0), ["b", "a"]),
            (NoSuchName, space.place_of, ["b", "a"]),
            (NoSuchName, space.values_of, {"b": "a"}),
        ]
        for error, function, value in cases:
            kept = repr(value)
            with self.assertRaises(error):
                function(value)
            self.assertEqual(repr(value), kept)
        value = [5, [0, {2: 1}]]
        self.assertIs(space.is_assignment(value), False)
        self.assertEqual(value, [5, [0, {2: 1}]])
        self.assert_untouched(space)

    def test_a_call_that_raises_an_error_changes_nothing(self):
        space = Space(VARIABLES)
        for error, function, value in (
            (NoSuchName, space.place_of, "c"), (NoSuchName, space.values_of, "c"),
            (BadOrder, lambda value: check_order(space, value), (("c", "up"),)),
            (BadOrder, lambda value: all_assignments(space, value), (("a", "up"), ("a", "up"))),
            (BadRule, lambda value: check_rule(space, value), ("in", "c", (0,))),
            (BadRule, lambda value: solve(space, value), (SUM, ("in", "c", (0,)))),
            (BadOrder, lambda value: solve(space, (SUM,), value), (("c", "up"),)),
        ):
            with self.assertRaises(error):
                function(value)
            self.assert_untouched(space)

    def test_a_returned_list_may_be_changed(self):
        space = Space(VARIABLES)
        for listed in (lambda: all_assignments(space, ORDER), lambda: solutions(space, (), ORDER)):
            first = listed()
            kept = list(first)
            first.reverse()
            first.append((9, 9))
            del first[1]
            second = listed()
            self.assertEqual(second, kept)
            self.assertIsNot(second, listed())
            second.clear()
            self.assertEqual(listed(), kept)
            self.assert_untouched(space)


class Interface(unittest.TestCase):
    def test_each_name_is_defined_in_the_file_that_lists_it(self):
        for module, names in LISTED.items():
            for name in names:
                with self.subTest(name=name):
                    self.assertEqual(getattr(module, name).__module__, module.__name__)

    def test_parameters_have_the_names_of_the_document(self):
        for function, names in PARAMETERS.items():
            with self.subTest(function=function):
                found = inspect.signature(function).parameters.values()
                self.assertEqual([parameter.name for parameter in found], names)
                by_keyword = BY_KEYWORD.get(function, [])
                for parameter in found:
                    is_bare = parameter.name in by_keyword
                    kind = parameter.KEYWORD_ONLY if is_bare else parameter.POSITIONAL_OR_KEYWORD
                    self.assertIs(parameter.kind, kind)
                defaults = {each.name: each.default for each in found if each.default is not each.empty}
                self.assertEqual(defaults, DEFAULTS.get(function, {}))

    def test_methods_stand_in_the_class_itself(self):
        for name in ("__init__", "__eq__", "__len__", "place_of", "values_of", "is_assignment"):
            self.assertIn(name, vars(Space))
        self.assertIn("__init__", vars(errors.NoSuchRule))
        self.assertIn("MOST_VARIABLES", vars(Space))
        self.assertIn("MOST_VALUES", vars(Space))
        for name in (
            "__init__", "__len__", "__iter__", "add", "remove", "push", "pop", "undo", "ask", "core", "possible",
            "best", "tried", "foresee", "MOST_RULES", "MOST_CHANGES",
        ):
            self.assertIn(name, vars(Desk))
        self.assertIsInstance(vars(Desk)["change_count"], property)

    def test_arguments_may_be_passed_by_keyword(self):
        space = Space(variables=VARIABLES)
        self.assertIs(is_before(space=space, order=(), first=(0, 2), second=(1, 2)), True)
        self.assertIs(satisfies(space=space, rule=SUM, assignment=(1, 5)), True)
        self.assertEqual(worth_of(space=space, terms=SUM[1], assignment=(1, 5)), -3)
        self.assertEqual(values_in(clause=CLAUSE, name="b"), (2,))
        self.assertIs(satisfies_clause(space=space, clause=CLAUSE, assignment=(1, 5)), False)
        self.assertEqual(resolvent(space=space, first=CLAUSE, second=CLAUSE, name="a"), CLAUSE)
        self.assertIs(is_clause(space=space, value=CLAUSE), True)
        self.assertIs(is_consistent(space=space, rule=SUM, domains=((1,), (2,))), False)
        self.assertEqual(filtered(space=space, rule=SUM, domains=((0, 1), (2, 5))), ((0, 1), (5,)))
        self.assertEqual(explanation(space=space, rule=SUM, domains=((1,), (2,))), (("b", (5,)),))
        self.assertIs(is_implied(space=space, rule=SUM, clause=(("b", (5,)),)), True)
        self.assertEqual(solve(space=space, rules=(SUM,), order=ORDER), ("solution", (0, 5)))
        self.assertEqual(errors.NoSuchRule(number=7).number, 7)

    def test_papers_and_cores_by_keyword(self):
        space = Space(VARIABLES)
        self.assertIs(judge(space=space, rules=RULES, paper=("solution", (0, 5))), True)
        self.assertEqual(paper_of(space=space, rules=RULES), ("solution", (0, 5)))
        paper = explain_first(space=space, rules=RULES, order=ORDER)
        self.assertIs(judge_first(space=space, rules=RULES, order=ORDER, paper=paper), True)
        paper = explain_best(space=space, rules=RULES, terms=TERMS, direction="least")
        self.assertIs(judge_best(space=space, rules=RULES, terms=TERMS, direction="least", paper=paper), True)
        self.assertEqual(least_core(space=space, rules=CLASH), (1, 2))
        self.assertEqual(why_not(space=space, rules=RULES, name="a", value=1), (0, 1))
        self.assertEqual(possible_values(space=space, rules=RULES), ((0,), (5,)))
        self.assertEqual(solutions(space=space, rules=RULES, order=ORDER, most=5), [(0, 5)])
        self.assertEqual(best(space=space, rules=RULES, terms=TERMS, direction="least", order=ORDER), ((0, 5), -10))


class Files(unittest.TestCase):
    def sources(self):
        folder = os.path.dirname(clashproved.__file__)
        for name in sorted(os.listdir(folder)):
            if name != "__pycache__":
                self.assertTrue(name.endswith(".py"), name)
                with open(os.path.join(folder, name), encoding="utf-8") as file:
                    yield name, file.read()

    def test_the_package_imports_only_itself_and_the_library_of_the_language(self):
        # So there is no clock, no random source, and nothing that reads files.
        allowed = r"from (clashproved\.[a-z]+|heapq|math|itertools|collections) import [A-Za-z_]+(, [A-Za-z_]+)*"
        for name, text in self.sources():
            for line in re.findall(r"^ *(?:import|from) .*$", text, re.MULTILINE):
                self.assertRegex(line, f"^{allowed}$", name)
            self.assertNotRegex(text, r"\b(open|__import__|print|input|eval|exec)\(", name)

    def test_sizes_and_characters(self):
        for name, text in self.sources():
            lines = text.split("\n")
            self.assertLess(len(lines), 400, name)
            self.assertLessEqual(max(len(line) for line in lines), 120, name)
            self.assertTrue(all(sign == "\n" or " " <= sign <= "~" for sign in text), name)


if __name__ == "__main__":
    unittest.main()
