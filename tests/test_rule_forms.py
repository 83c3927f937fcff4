"""Point 6: which values are rules of a space, and which variables stand in them."""

import unittest

from clashproved.errors import BadRule
from clashproved.rules import check_rule, names_of
from clashproved.spaces import Space
from tests.helpers import with_parts_replaced

# The order of the space is neither that of the letters nor that of the values.
SPACE = Space((
    ("f", (0, 1)), ("e2", (2, 5)), ("d", (0, 1, 2, 3, 4, 5)), ("c", (15,)), ("b", (1, 3)), ("a", (0, 7)),
))
SIX = ("f", "e2", "d", "c", "b", "a")
FIVE = SIX[:5]
ALL_VALUES = tuple(range(16))
SIX_TERMS = tuple((1, name) for name in SIX)
SIX_LITERALS = tuple((name, (0, 1)) for name in SIX)

GOOD_SIMPLE = {
    "in": [
        ("in", "a", (0,)),
        ("in", "e2", (15,)),
        ("in", "a", (0, 15)),
        ("in", "c", (3, 4, 5)),
        ("in", "f", ALL_VALUES),
    ],
    "sum": [
        ("sum", ((1, "a"),), "=", 0),
        ("sum", ((-9, "a"),), "<=", -1100),
        ("sum", ((9, "a"),), ">=", 1100),
        ("sum", ((-1, "b"), (1, "a")), "!=", -1),
        ("sum", ((2, "f"), (-3, "e2")), "=", 1099),
        ("sum", ((8, "f"), (-8, "e2"), (8, "a")), "=", -1099),
        ("sum", SIX_TERMS, "<=", 5),
        ("sum", tuple((-9, name) for name in SIX[::-1]), ">=", 5),
    ],
    "different": [
        ("different", ("a", "b")),
        ("different", ("b", "a")),
        ("different", ("f", "d", "a")),
        ("different", SIX),
        ("different", SIX[::-1]),
    ],
    "equal": [
        ("equal", ("a", "b")),
        ("equal", ("c", "a", "f")),
        ("equal", SIX),
    ],
    "table": [
        ("table", ("a",), ((0,),)),
        ("table", ("a",), ((15,),)),
        ("table", ("a", "c"), ((0, 15), (15, 0), (3, 3))),
        ("table", ("b", "a"), ((1, 1), (1, 1))),
        ("table", ("a",), tuple((value % 16,) for value in range(20))),
        ("table", SIX, ((0, 1, 2, 3, 4, 5), (15, 14, 13, 12, 11, 10))),
    ],
    "count": [
        ("count", ("a",), (0,), (0,)),
        ("count", ("a", "b"), (0, 15), (2,)),
        ("count", SIX, ALL_VALUES, ALL_VALUES),
        ("count", ("b", "f", "c"), (7,), (0, 15)),
    ],
    "element": [
        ("element", "a", ("b",), "c"),
        ("element", "a", ("b", "f"), "c"),
        ("element", "a", SIX, "b"),
        ("element", "a", ("b", "b", "b", "b", "b", "b"), "c"),
        ("element", "a", ("a",), "a"),
        ("element", "d", ("c", "b", "c"), "c"),
    ],
    "or": [
        ("or", ()),
        ("or", (("a", (0,)),)),
        ("or", (("b", (15,)), ("a", ALL_VALUES))),
        ("or", SIX_LITERALS),
        ("or", SIX_LITERALS[::-1]),
    ],
}
GOOD = [rule for rules in GOOD_SIMPLE.values() for rule in rules]
GOOD_IF = [("if", (name, values), rule) for rule in GOOD for name, values in (("b", (1,)), ("c", (0, 15)))]

BAD_SIMPLE = {
    "in": [
        ("in",),
        ("in", "a"),
        ("in", (0,), "a"),
        ("in", "a", (0,), (1,)),
        ("in", ("a", (0,))),
        ("in", "z", (0,)),
        ("in", "", (0,)),
        ("in", "e", (0,)),
        ("in", "2", (0,)),
        ("in", ("a",), (0,)),
        ("in", 5, (0,)),
        ("in", "a", ()),
        ("in", "a", 0),
        ("in", "a", [0]),
        ("in", "a", (-1,)),
        ("in", "a", (16,)),
        ("in", "a", (0, 16)),
        ("in", "a", (-1, 0)),
        ("in", "a", (1, 0)),
        ("in", "a", (0, 2, 1)),
        ("in", "a", (0, 0)),
        ("in", "a", (0, 1, 1)),
        ("in", "a", (True,)),
        ("in", "a", (False, 1)),
        ("in", "a", (0, 1.0)),
        ("in", "a", ("0",)),
        ("in", "a", ((0,),)),
        ("in", "a", tuple(range(17))),
        ("in", "a", tuple(range(-1, 15))),
        ("in", "a", ALL_VALUES[::-1]),
    ],
    "sum": [
        ("sum",),
        ("sum", ((1, "a"),)),
        ("sum", ((1, "a"),), "="),
        ("sum", ((1, "a"),), "=", 0, 0),
        ("sum", ((1, "a"),), 0, "="),
        ("sum", "=", ((1, "a"),), 0),
        ("sum", (), "=", 0),
        ("sum", SIX_TERMS + ((1, "a"),), "=", 0),
        ("sum", ((1, "a"), (1, "a")), "=", 0),
        ("sum", ((1, "a"), (1, "b"), (-1, "a")), "=", 0),
        ("sum", ((0, "a"),), "=", 0),
        ("sum", ((1, "b"), (0, "a")), "=", 0),
        ("sum", ((10, "a"),), "=", 0),
        ("sum", ((-10, "a"),), "=", 0),
        ("sum", ((True, "a"),), "=", 0),
        ("sum", ((False, "a"),), "=", 0),
        ("sum", ((1.0, "a"),), "=", 0),
        ("sum", (("1", "a"),), "=", 0),
        ("sum", (("a", 1),), "=", 0),
        ("sum", ((1, "z"),), "=", 0),
        ("sum", ((1, "a", 1),), "=", 0),
        ("sum", ((1,),), "=", 0),
        ("sum", ((),), "=", 0),
        ("sum", ("a",), "=", 0),
        ("sum", (1, "a"), "=", 0),
        ("sum", [(1, "a")], "=", 0),
        ("sum", ([1, "a"],), "=", 0),
        ("sum", ((1, "a"),), "<", 0),
        ("sum", ((1, "a"),), ">", 0),
        ("sum", ((1, "a"),), "==", 0),
        ("sum", ((1, "a"),), "=<", 0),
        ("sum", ((1, "a"),), "=>", 0),
        ("sum", ((1, "a"),), "!", 0),
        ("sum", ((1, "a"),), "<>", 0),
        ("sum", ((1, "a"),), "", 0),
        ("sum", ((1, "a"),), "= ", 0),
        ("sum", ((1, "a"),), ("=",), 0),
        ("sum", ((1, "a"),), None, 0),
        ("sum", ((1, "a"),), b"=", 0),
        ("sum", ((1, "a"),), "=", 1101),
        ("sum", ((1, "a"),), "=", -1101),
        ("sum", ((1, "a"),), "=", 10 ** 30),
        ("sum", ((1, "a"),), "=", True),
        ("sum", ((1, "a"),), "=", False),
        ("sum", ((1, "a"),), "=", 0.0),
        ("sum", ((1, "a"),), "=", "0"),
        ("sum", ((1, "a"),), "=", (0,)),
        ("sum", ((1, "a"),), "=", None),
    ],
    "table": [
        ("table",),
        ("table", ("a",)),
        ("table", ((0,),), ("a",)),
        ("table", ("a",), ((0,),), ((0,),)),
        ("table", (), ((),)),
        ("table", (), ()),
        ("table", SIX + ("a",), ((0,) * 7,)),
        ("table", FIVE + ("z",), ((0,) * 6,)),
        ("table", ("a", "a"), ((0, 0),)),
        ("table", ("b", "a", "b"), ((0, 0, 0),)),
        ("table", ("z",), ((0,),)),
        ("table", "a", ((0,),)),
        ("table", ["a"], ((0,),)),
        ("table", ("a",), ()),
        ("table", ("a",), tuple((value % 16,) for value in range(21))),
        ("table", ("a",), ((0,),) * 21),
        ("table", ("a",), [(0,)]),
        ("table", ("a",), {(0,)}),
        ("table", ("a",), ([0],)),
        ("table", ("a",), (0,)),
        ("table", ("a",), 0),
        ("table", ("a",), ((),)),
        ("table", ("a",), ((0, 0),)),
        ("table", ("a", "b"), ((0,),)),
        ("table", ("a", "b"), ((0, 1), (0,))),
        ("table", ("a", "b"), ((0, 1), (0, 1, 2))),
        ("table", ("a", "b"), (("a", 0), ("b", 1))),
        ("table", ("a",), ((-1,),)),
        ("table", ("a",), ((16,),)),
        ("table", ("a", "b"), ((0, 1), (0, 16))),
        ("table", ("a", "b"), ((0, 1), (-1, 0))),
        ("table", ("a",), ((True,),)),
        ("table", ("a",), ((False,),)),
        ("table", ("a",), ((0.0,),)),
        ("table", ("a",), ((None,),)),
        ("table", ("a",), (((0,),),)),
    ],
    "count": [
        ("count",),
        ("count", ("a",)),
        ("count", ("a",), (0,)),
        ("count", ("a",), (0,), (0,), (0,)),
        ("count", (0,), ("a",), (0,)),
        ("count", (), (0,), (0,)),
        ("count", "a", (0,), (0,)),
        ("count", ["a"], (0,), (0,)),
        ("count", ("a", "a"), (0,), (0,)),
        ("count", ("a", "b", "a"), (0,), (0,)),
        ("count", SIX + ("a",), (0,), (0,)),
        ("count", FIVE + ("z",), (0,), (0,)),
        ("count", ("z",), (0,), (0,)),
        ("count", ("a",), (), (0,)),
        ("count", ("a",), (0,), ()),
        ("count", ("a",), 0, (0,)),
        ("count", ("a",), (0,), 0),
        ("count", ("a",), [0], (0,)),
        ("count", ("a",), (0,), [0]),
        ("count", ("a",), (16,), (0,)),
        ("count", ("a",), (0,), (16,)),
        ("count", ("a",), (-1,), (0,)),
        ("count", ("a",), (0,), (-1,)),
        ("count", ("a",), (1, 0), (0,)),
        ("count", ("a",), (0,), (1, 0)),
        ("count", ("a",), (1, 1), (0,)),
        ("count", ("a",), (0,), (1, 1)),
        ("count", ("a",), (True,), (0,)),
        ("count", ("a",), (0,), (False,)),
        ("count", ("a",), ("a",), (0,)),
        ("count", ("a",), (0,), None),
    ],
    "element": [
        ("element",),
        ("element", "a"),
        ("element", "a", ("b",)),
        ("element", "a", ("b",), "c", "c"),
        ("element", ("b",), "a", "c"),
        ("element", "a", "c", ("b",)),
        ("element", "z", ("b",), "c"),
        ("element", "a", ("z",), "c"),
        ("element", "a", ("b", "z"), "c"),
        ("element", "a", ("b",), "z"),
        ("element", 0, ("b",), "c"),
        ("element", "a", ("b",), 15),
        ("element", "a", (1,), "c"),
        ("element", ("a",), ("b",), "c"),
        ("element", "a", ("b",), ("c",)),
        ("element", "a", (("b",),), "c"),
        ("element", "a", (), "c"),
        ("element", "a", SIX + ("a",), "c"),
        ("element", "a", ("b",) * 7, "c"),
        ("element", "a", "b", "c"),
        ("element", "a", ["b"], "c"),
        ("element", "a", None, "c"),
        ("element", None, ("b",), "c"),
        ("element", "a", ("b",), None),
    ],
    "or": [
        ("or",),
        ("or", (), ()),
        ("or", ("a", (0,))),
        ("or", "a", (0,)),
        ("or", ("a", (0,)), ("b", (0,))),
        ("or", []),
        ("or", ""),
        ("or", None),
        ("or", 0),
        ("or", {}),
        ("or", [("a", (0,))]),
        ("or", (["a", (0,)],)),
        ("or", ((),)),
        ("or", (("a",),)),
        ("or", (("a", (0,), (0,)),)),
        ("or", (("a", ()),)),
        ("or", (("a", 0),)),
        ("or", (("a", [0]),)),
        ("or", (("z", (0,)),)),
        ("or", (("a", (0,)), ("a", (1,)))),
        ("or", (("a", (0,)), ("b", (0,)), ("a", (0,)))),
        ("or", SIX_LITERALS + (("a", (3,)),)),
        ("or", SIX_LITERALS + (("z", (3,)),)),
        ("or", (("a", (0, 16)),)),
        ("or", (("a", (-1,)),)),
        ("or", (("a", (1, 0)),)),
        ("or", (("a", (0, 0)),)),
        ("or", (("a", (True,)),)),
        ("or", (("a", (0,)), ("b", (3, 1)))),
        ("or", (("in", "a", (0,)),)),
        ("or", (((0,), "a"),)),
    ],
}
for kind in ("different", "equal"):
    BAD_SIMPLE[kind] = [
        (kind,),
        (kind, ()),
        (kind, ("a",)),
        (kind, "a", "b"),
        (kind, ("a", "b"), ()),
        (kind, ("a", "b"), ("a", "b")),
        (kind, ("a", "a")),
        (kind, ("a", "b", "a")),
        (kind, ("a", "b", "b")),
        (kind, SIX + ("a",)),
        (kind, SIX + ("z",)),
        (kind, ("a", "z")),
        (kind, ("z", "a")),
        (kind, ("a", "A")),
        (kind, ("a", "")),
        (kind, ("a", 0)),
        (kind, ("a", None)),
        (kind, ("a", ("b",))),
        (kind, (("a", "b"),)),
        (kind, ["a", "b"]),
        (kind, {"a": 1, "b": 2}),
        (kind, "ab"),
        (kind, None),
        (kind, 2),
    ]
BAD = [rule for rules in BAD_SIMPLE.values() for rule in rules]

LITERAL = ("b", (1,))
RULE = ("in", "a", (0,))
BAD_IF = [
    ("if",),
    ("if", LITERAL),
    ("if", RULE),
    ("if", LITERAL, RULE, RULE),
    ("if", LITERAL, RULE, LITERAL),
    ("if", RULE, LITERAL),
    ("if", RULE, RULE),
    ("if", LITERAL, LITERAL),
    ("if", (LITERAL,), RULE),
    ("if", LITERAL, (RULE,)),
    ("if", LITERAL, "in", "a", (0,)),
    ("if", "b", (1,), RULE),
    ("if", (), RULE),
    ("if", None, RULE),
    ("if", LITERAL, None),
    ("if", LITERAL, ()),
    ("if", LITERAL, "or"),
    ("if", LITERAL, 0),
    ("if", list(LITERAL), RULE),
    ("if", LITERAL, list(RULE)),
    ("if", ("z", (1,)), RULE),
    ("if", ("b", ()), RULE),
    ("if", ("b", 1), RULE),
    ("if", ("b", (1, 0)), RULE),
    ("if", ("b", (16,)), RULE),
    ("if", ("b", (True,)), RULE),
    ("if", ("b",), RULE),
    ("if", ("b", (1,), (1,)), RULE),
    ("if", LITERAL, ("if", LITERAL, RULE)),
    ("if", LITERAL, ("if", LITERAL, ("or", ()))),
    ("if", LITERAL, ("unless", LITERAL, RULE)),
]
BAD_OTHERWISE = [
    (), None, True, False, 0, 1, 2.0, "", "or", "in", b"or", "sum", [], {}, set(), object(), SPACE,
    ("",), (None,), (0,), (True,), ((),), (("or", ()),), [("or", ())], ["or", ()], {"or": ()}, ("or ", ()),
    ("OR", ()), (b"or", ()), ("o", ()), (("or",), ()), (["or"], ()), ({}, ()), (0, ()), (None, ()),
    ("and", ()), ("not", "a", (0,)), ("notin", "a", (0,)), ("xor", ()), ("unequal", ("a", "b")), ("true",),
    ("a", (0,)), (("a", (0,)),), ("a", "in", (0,)), ("inor", ()), ((0,), "a", "in"), (RULE, RULE),
    (LITERAL, "if", RULE), (RULE,), (None, RULE), (1, RULE), ("ifin", LITERAL, RULE),
]


class CheckingRules(unittest.TestCase):
    def assert_bad(self, rule):
        with self.assertRaises(BadRule, msg=repr(rule)):
            check_rule(SPACE, rule)

    def test_rules_of_eight_kinds_are_taken(self):
        self.assertEqual(len(GOOD_SIMPLE), 8)
        for rule in GOOD:
            with self.subTest(rule=rule):
                self.assertIsNone(check_rule(SPACE, rule))

    def test_conditionals_over_each_other_kind_are_taken(self):
        for rule in GOOD_IF:
            with self.subTest(rule=rule):
                self.assertIsNone(check_rule(SPACE, rule))

    def test_every_value_alone_and_the_ones_beyond(self):
        for value in range(16):
            check_rule(SPACE, ("in", "a", (value,)))
            check_rule(SPACE, ("or", (("a", (value,)),)))
            check_rule(SPACE, ("table", ("a",), ((value,),)))
            check_rule(SPACE, ("count", ("a",), (value,), (value,)))
        for value in (-2, -1, 16, 17, 100):
            self.assert_bad(("in", "a", (value,)))
            self.assert_bad(("or", (("a", (value,)),)))
            self.assert_bad(("table", ("a",), ((value,),)))
            self.assert_bad(("count", ("a",), (value,), (0,)))
            self.assert_bad(("count", ("a",), (0,), (value,)))

    def test_every_factor(self):
        for factor in range(-12, 13):
            rule = ("sum", ((1, "b"), (factor, "a")), "<=", 0)
            if factor != 0 and -9 <= factor <= 9:
                check_rule(SPACE, rule)
            else:
                self.assert_bad(rule)

    def test_every_number_of_a_sum(self):
        for number in range(-1105, 1106):
            rule = ("sum", ((1, "a"),), ">=", number)
            if -1100 <= number <= 1100:
                check_rule(SPACE, rule)
            else:
                self.assert_bad(rule)

    def test_every_relation(self):
        for relation in ("=", "<=", ">=", "!="):
            check_rule(SPACE, ("sum", ((1, "a"),), relation, 0))

    def test_every_number_of_names(self):
        for many in range(7):
            names = SIX[:many]
            rules = [
                (2, ("different", names)), (2, ("equal", names)), (1, ("table", names, ((0,) * many,))),
                (1, ("count", names, (0,), (0,))), (1, ("element", "a", names, "a")),
                (1, ("sum", SIX_TERMS[:many], "=", 0)), (0, ("or", SIX_LITERALS[:many])),
            ]
            for least, rule in rules:
                with self.subTest(rule=rule):
                    if many >= least:
                        check_rule(SPACE, rule)
                    else:
                        self.assert_bad(rule)

    def test_every_number_of_rows(self):
        for many in range(25):
            rule = ("table", ("a", "b"), ((1, 2),) * many)
            if 1 <= many <= 20:
                check_rule(SPACE, rule)
            else:
                self.assert_bad(rule)

    def test_names_of_another_space(self):
        other = Space((("x", (0, 1)), ("y", (0, 1))))
        for rule in (("different", ("x", "y")), ("in", "x", (0,)), ("sum", ((1, "x"),), "=", 0)):
            check_rule(other, rule)
            self.assert_bad(rule)
        for rule in GOOD:
            if names_of(SPACE, rule):
                with self.assertRaises(BadRule, msg=repr(rule)):
                    check_rule(other, rule)

    def test_bad_rules_of_eight_kinds(self):
        self.assertEqual(sorted(BAD_SIMPLE), sorted(GOOD_SIMPLE))
        for rule in BAD:
            self.assert_bad(rule)

    def test_bad_rules_in_conditionals(self):
        for rule in BAD:
            self.assert_bad(("if", LITERAL, rule))

    def test_bad_conditionals(self):
        for rule in BAD_IF:
            self.assert_bad(rule)

    def test_conditionals_in_conditionals(self):
        for rule in GOOD_IF:
            self.assert_bad(("if", LITERAL, rule))

    def test_things_that_are_no_rules_at_all(self):
        for rule in BAD_OTHERWISE:
            self.assert_bad(rule)

    def test_kinds_exchanged(self):
        # A list of the pairs that stay rules, because the two kinds have parts of the same form.
        alike = [("different", "equal"), ("equal", "different")]
        for kind, rules in GOOD_SIMPLE.items():
            for other in GOOD_SIMPLE:
                for rule in rules:
                    if other != kind and (kind, other) not in alike:
                        self.assert_bad((other,) + rule[1:])

    def test_a_part_too_few_and_a_part_too_many(self):
        for rule in GOOD + GOOD_IF:
            self.assert_bad(rule[:-1])
            self.assert_bad(rule[1:])
            for part in (None, 0, (), rule[-1], "a", (0,)):
                self.assert_bad(rule + (part,))

    def test_parts_of_wrong_kinds_at_each_depth(self):
        for rules in GOOD_SIMPLE.values():
            for rule in rules:
                for wrong in with_parts_replaced(rule, ["zz", 16.0]):
                    self.assert_bad(wrong)

    def test_parts_of_wrong_kinds_at_each_depth_of_a_conditional(self):
        for rule in (("if", ("b", (1, 3)), ("sum", ((-1, "b"), (1, "a")), "!=", -1)), ("if", LITERAL, ("or", ()))):
            for wrong in with_parts_replaced(rule, ["zz", 1.0]):
                self.assert_bad(wrong)


class NamesOfRules(unittest.TestCase):
    def test_names_stand_in_the_order_of_the_space(self):
        cases = [
            (("in", "e2", (0,)), ("e2",)),
            (("sum", ((1, "a"), (2, "d"), (-1, "f")), "=", 3), ("f", "d", "a")),
            (("sum", ((1, "c"),), "=", 3), ("c",)),
            (("different", ("a", "b", "c")), ("c", "b", "a")),
            (("equal", ("f", "a")), ("f", "a")),
            (("equal", ("a", "f")), ("f", "a")),
            (("table", ("b", "e2"), ((1, 2),)), ("e2", "b")),
            (("count", ("a", "d", "f"), (1,), (1,)), ("f", "d", "a")),
            (("element", "a", ("b", "f"), "c"), ("f", "c", "b", "a")),
            (("element", "f", ("b", "b"), "b"), ("f", "b")),
            (("element", "d", ("d",), "d"), ("d",)),
            (("element", "a", ("f",), "f"), ("f", "a")),
            (("or", ()), ()),
            (("or", (("a", (0,)), ("e2", (7,)))), ("e2", "a")),
            (("or", SIX_LITERALS[::-1]), SIX),
            (("if", ("a", (0,)), ("in", "f", (0,))), ("f", "a")),
            (("if", ("f", (0,)), ("in", "a", (0,))), ("f", "a")),
            (("if", ("a", (0,)), ("in", "a", (1,))), ("a",)),
            (("if", ("a", (0,)), ("or", ())), ("a",)),
            (("if", ("d", (9,)), ("element", "a", ("b",), "c")), ("d", "c", "b", "a")),
            (("if", ("d", (0,)), ("sum", ((1, "a"), (1, "f")), "=", 3)), ("f", "d", "a")),
            (("if", ("d", (0,)), ("different", ("a", "f"))), ("f", "d", "a")),
            (("if", ("d", (0,)), ("equal", ("a", "f"))), ("f", "d", "a")),
            (("if", ("d", (0,)), ("table", ("a", "f"), ((0, 0),))), ("f", "d", "a")),
            (("if", ("d", (0,)), ("count", ("a", "f"), (0,), (0,))), ("f", "d", "a")),
            (("if", ("d", (0,)), ("or", (("a", (0,)), ("f", (0,))))), ("f", "d", "a")),
        ]
        for rule, names in cases:
            with self.subTest(rule=rule):
                check_rule(SPACE, rule)
                found = names_of(SPACE, rule)
                self.assertEqual(found, names)
                self.assertIs(type(found), tuple)

    def test_no_name_stands_twice_and_all_are_in_order(self):
        for rule in GOOD + GOOD_IF:
            places = [SPACE.place_of(name) for name in names_of(SPACE, rule)]
            self.assertEqual(places, sorted(set(places)))


if __name__ == "__main__":
    unittest.main()
