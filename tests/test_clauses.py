"""Point 7: clauses, what satisfies them, and resolution."""

import unittest
from itertools import permutations

from clashproved.clauses import is_clause, resolvent, satisfies_clause, values_in
from clashproved.spaces import Space
from tests.brute import Brute, every_clause, resolved
from tests.helpers import Thorny, every_assignment, strange_values, with_parts_replaced
from tests.samples import SPACE

DOCUMENT = Space((("a", (0, 1)), ("b", (0, 1))))
SMALL = Space((("q", (0, 3)), ("b", (1, 2, 15)), ("a", (4, 5))))
CLAUSES = [
    (),
    (("c", (0,)),),
    (("c", (0, 1, 2, 3)),),
    (("b", (1, 15)),),
    (("c", (1, 3)), ("b", (2,))),
    (("a", (0, 1)), ("b", (1, 2, 15))),
    (("c", (0, 2)), ("a", (1,)), ("b", (1, 2))),
    (("c", (0, 1, 2, 3)), ("a", (0, 1)), ("b", (1, 2, 15))),
]
NO_CLAUSES = {
    "another order than the space's": (("b", (1,)), ("c", (1,))),
    "the order of the letters": (("a", (1,)), ("b", (1,)), ("c", (1,))),
    "the last two in another order": (("c", (1,)), ("b", (1,)), ("a", (1,))),
    "a name twice": (("c", (1,)), ("c", (2,))),
    "a name twice, with the same values": (("c", (1,)), ("c", (1,))),
    "a name twice, apart": (("c", (1,)), ("a", (1,)), ("c", (2,))),
    "more literals than variables": (("c", (1,)), ("a", (1,)), ("b", (1,)), ("b", (2,))),
    "an unknown name": (("d", (1,)),),
    "an unknown name behind known ones": (("c", (1,)), ("d", (1,))),
    "an empty name": (("", (1,)),),
    "two names in one": (("ca", (1,)),),
    "a great letter": (("C", (1,)),),
    "a place for a name": ((0, (1,)),),
    "bytes for a name": ((b"c", (1,)),),
    "a tuple for a name": ((("c",), (1,)),),
    "a value that is another variable's": (("a", (2,)),),
    "a value that is another variable's, behind a right one": (("c", (1, 15)),),
    "a value between those of the variable": (("b", (3,)),),
    "a value less than 0": (("c", (-1,)),),
    "a value greater than 15": (("b", (16,)),),
    "a value twice": (("c", (1, 1)),),
    "values that descend": (("c", (2, 1)),),
    "values that ascend and descend": (("c", (0, 3, 2)),),
    "no values": (("c", ()),),
    "no values behind a right literal": (("c", (1,)), ("a", ())),
    "True for 1": (("a", (True,)),),
    "False for 0": (("a", (False,)),),
    "False and 1": (("a", (False, 1)),),
    "0 and True": (("a", (0, True)),),
    "numbers that are not whole in kind": (("a", (0.0, 1.0)),),
    "a string for a value": (("a", ("1",)),),
    "a tuple for a value": (("a", ((1,),)),),
    "None for a value": (("a", (None,)),),
    "a number for values": (("a", 1),),
    "None for values": (("a", None),),
    "a string for values": (("a", "1"),),
    "a list for values": (("a", [1]),),
    "a set for values": (("a", {1}),),
    "a range for values": (("a", range(2)),),
    "a list for a literal": (["a", (1,)],),
    "a list for the clause": [("a", (1,))],
    "an empty list": [],
    "lists at each depth": [["a", [1]]],
    "a dict": {"a": (1,)},
    "an empty dict": {},
    "a set": {("a", (1,))},
    "an empty set": set(),
    "a name alone": (("a",),),
    "a pair that is too long": (("a", (1,), (1,)),),
    "an empty pair": ((),),
    "a literal the wrong way round": (((1,), "a"),),
    "a single literal": ("a", (1,)),
    "names alone": ("c", "a"),
    "None in a tuple": (None,),
    "None": None,
    "a number": 0,
    "True": True,
    "False": False,
    "a string": "a",
    "an empty string": "",
    "empty bytes": b"",
    "a space": SPACE,
    "an object that takes nothing": Thorny(),
}


class TellingClauses(unittest.TestCase):
    def test_clauses(self):
        for clause in CLAUSES:
            self.assertIs(is_clause(SPACE, clause), True, clause)

    def test_each_clause_of_a_small_space(self):
        for clause in every_clause(SMALL):
            self.assertIs(is_clause(SMALL, clause), True, clause)

    def test_literals_in_each_order(self):
        literals = (("q", (0, 3)), ("b", (2,)), ("a", (4,)))
        for many in range(4):
            for row in permutations(literals, many):
                right = row == tuple(literal for literal in literals if literal in row)
                self.assertIs(is_clause(SMALL, row), right, row)

    def test_six_literals(self):
        space = Space(tuple((name, (0, 1, 2, 3, 4, 15)) for name in "fadbec"))
        clause = tuple((name, (0, 1, 2, 3, 4, 15)) for name in "fadbec")
        self.assertIs(is_clause(space, clause), True)
        self.assertIs(is_clause(space, clause[::-1]), False)
        self.assertIs(is_clause(space, clause + clause[-1:]), False)

    def test_no_clauses(self):
        for what, value in NO_CLAUSES.items():
            with self.subTest(what):
                self.assertIs(is_clause(SPACE, value), False)

    def test_strange_values(self):
        for value in strange_values():
            self.assertIs(is_clause(SPACE, value), False, repr(value))

    def test_parts_of_wrong_kinds_at_each_depth(self):
        for clause in CLAUSES:
            for wrong in with_parts_replaced(clause, ["zz", 7, -1, 16]):
                self.assertIs(is_clause(SPACE, wrong), False, repr(wrong))

    def test_a_clause_of_another_space(self):
        self.assertIs(is_clause(DOCUMENT, (("a", (0,)), ("b", (1,)))), True)
        self.assertIs(is_clause(SPACE, (("a", (0,)), ("b", (1,)))), True)
        self.assertIs(is_clause(SMALL, (("a", (0,)), ("b", (1,)))), False)
        self.assertIs(is_clause(DOCUMENT, (("c", (0,)),)), False)

    def test_a_wrong_value_that_can_be_changed_stays_as_it_is(self):
        value = [["a", [1, 0]]]
        self.assertIs(is_clause(SPACE, value), False)
        self.assertIs(is_clause(SPACE, tuple(value)), False)
        self.assertEqual(value, [["a", [1, 0]]])


class ValuesOfClauses(unittest.TestCase):
    def test_values_for_each_variable(self):
        clause = (("c", (0, 2)), ("b", (1, 2, 15)))
        self.assertEqual(values_in(clause, "c"), (0, 2))
        self.assertEqual(values_in(clause, "b"), (1, 2, 15))

    def test_no_values(self):
        self.assertEqual(values_in((("c", (0, 2)), ("b", (1, 2, 15))), "a"), ())
        self.assertEqual(values_in((), "a"), ())

    def test_each_clause_of_a_small_space(self):
        for clause in every_clause(SMALL):
            for name in SMALL.names:
                self.assertEqual(values_in(clause, name), dict(clause).get(name, ()))

    def test_names_of_several_signs(self):
        clause = (("a", (0,)), ("a1", (1,)), ("a10", (2,)))
        self.assertEqual([values_in(clause, name) for name in ("a", "a1", "a10")], [(0,), (1,), (2,)])


class SatisfyingClauses(unittest.TestCase):
    def told(self, clause, row, space=SPACE):
        found = satisfies_clause(space, clause, row)
        self.assertIn(repr(found), ("True", "False"))
        return found

    def test_the_empty_clause_is_never_satisfied(self):
        for row in every_assignment(SPACE):
            self.assertIs(self.told((), row), False)

    def test_all_values_of_a_variable_are_always_satisfied(self):
        for name, values in SPACE.variables:
            for row in every_assignment(SPACE):
                self.assertIs(self.told(((name, values),), row), True)

    def test_one_literal_is_enough(self):
        clause = (("c", (1, 3)), ("b", (2,)))
        for c, a, b in every_assignment(SPACE):
            self.assertIs(self.told(clause, (c, a, b)), c in (1, 3) or b == 2)

    def test_each_clause_of_a_small_space(self):
        for clause in every_clause(SMALL):
            for row in every_assignment(SMALL):
                expected = any(value in dict(clause).get(name, ()) for name, value in zip(SMALL.names, row))
                self.assertIs(self.told(clause, row, SMALL), expected)


class Resolvents(unittest.TestCase):
    def test_the_example_of_the_document(self):
        found = resolvent(DOCUMENT, (("a", (1,)), ("b", (0,))), (("a", (1,)), ("b", (1,))), "b")
        self.assertEqual(found, (("a", (1,)),))

    def test_small_resolvents(self):
        cases = [
            ((), (), "c", ()),
            ((("c", (0,)),), (("c", (1, 2, 3)),), "c", ()),
            ((("c", (0, 1)),), (("c", (1, 2)),), "c", (("c", (1,)),)),
            ((("c", (0, 1)),), (("c", (1, 2)),), "a", (("c", (0, 1, 2)),)),
            ((("c", (3,)),), (("c", (0,)),), "b", (("c", (0, 3)),)),
            ((("c", (3,)),), (("b", (15,)),), "c", (("b", (15,)),)),
            ((("b", (15,)),), (("c", (3,)),), "a", (("c", (3,)), ("b", (15,)))),
            ((("b", (15,)),), (("a", (1,)),), "c", (("a", (1,)), ("b", (15,)))),
            ((("c", (0, 1, 2, 3)),), (("c", (0, 1, 2, 3)),), "c", (("c", (0, 1, 2, 3)),)),
            ((("c", (0, 2)), ("a", (0,))), (("a", (1,)), ("b", (2, 15))), "a", (("c", (0, 2)), ("b", (2, 15)))),
            ((("a", (1,)), ("b", (2,))), (("a", (0,)), ("b", (1, 15))), "a", (("b", (1, 2, 15)),)),
        ]
        for first, second, name, clause in cases:
            with self.subTest(first=first, second=second, name=name):
                self.assertEqual(resolvent(SPACE, first, second, name), clause)
                self.assertEqual(resolvent(SPACE, second, first, name), clause)

    def test_all_pairs_of_clauses_by_the_definition(self):
        clauses = every_clause(SMALL)[::3] + [()]
        for first in clauses:
            for second in clauses:
                for name in SMALL.names:
                    found = resolvent(SMALL, first, second, name)
                    self.assertEqual(found, resolved(SMALL, first, second, name), (first, second, name))
                    self.assertIs(is_clause(SMALL, found), True)

    def test_the_samples_by_the_definition(self):
        for first in CLAUSES:
            for second in CLAUSES:
                for name in SPACE.names:
                    found = resolvent(SPACE, first, second, name)
                    self.assertEqual(found, resolved(SPACE, first, second, name), (first, second, name))
                    self.assertEqual(found, resolvent(SPACE, second, first, name))

    def test_what_satisfies_both_satisfies_the_resolvent(self):
        brute = Brute(SPACE)
        for first in CLAUSES:
            for second in CLAUSES:
                for name in SPACE.names:
                    both = brute.of_clause(first) & brute.of_clause(second)
                    found = brute.of_clause(resolvent(SPACE, first, second, name))
                    self.assertEqual(both & ~found, 0, (first, second, name))

    def test_a_clause_with_itself(self):
        for clause in every_clause(SMALL):
            for name in SMALL.names:
                self.assertEqual(resolvent(SMALL, clause, clause, name), clause)


if __name__ == "__main__":
    unittest.main()
