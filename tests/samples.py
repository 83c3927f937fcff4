"""Spaces, rules of all nine kinds over them, orders, terms and a refutation, to be tried by several tests."""

import random

from clashproved.spaces import Space

NAMES = "abcdef"
PAIR = Space((("a", (0, 1)), ("b", (0, 1))))
DIFFERENT, EQUAL = ("different", ("a", "b")), ("equal", ("a", "b"))
# The refutation of these two rules that point 13 tells.
EXAMPLE = (
    ("rule", 1, (("a", (1,)), ("b", (0,)))),
    ("rule", 0, (("a", (1,)), ("b", (1,)))),
    ("resolve", 0, (("b", 1),), (("a", (1,)),)),
    ("rule", 1, (("a", (0,)), ("b", (1,)))),
    ("rule", 0, (("a", (0,)), ("b", (0,)))),
    ("resolve", 3, (("b", 4), ("a", 2)), ()),
)

# The order of the space is not that of the letters, and the values of no two variables are the same.
SPACE = Space((("c", (0, 1, 2, 3)), ("a", (0, 1)), ("b", (1, 2, 15))))
SIX = Space((
    ("d", (0, 1, 2)), ("a", (1, 2, 3)), ("f", (0, 3, 15)), ("b", (0, 1, 2, 4)), ("e", (2, 3)), ("c", (0, 1, 5)),
))
ORDERS = [
    (), (("b", "down"),), (("a", "up"),), (("a", "down"), ("c", "down")), (("b", "up"), ("a", "down")),
    (("c", "down"), ("b", "up"), ("a", "down")), (("a", "up"), ("b", "down"), ("c", "up")),
]
TERMS = [
    ((1, "a"),), ((-1, "c"),), ((2, "c"), (-3, "b")), ((1, "b"), (1, "a"), (1, "c")), ((-9, "a"), (5, "c"), (9, "b")),
]
SIX_TERMS = [((1, "f"), (-2, "b"), (3, "c")), tuple(zip((2, 4, -6, 8, -2, 9), "abcdef")), ((-1, "e"),)]
DIRECTIONS = ("least", "greatest")
# What is no order and no rule of the space of two variables.
BAD_ORDERS = [
    (("z", "up"),), (("a", "left"),), (("a", "up"), ("a", "down")), ("a", "up"), [("a", "up")], None, 5, "up",
    ((("a",), "up"),), (("a", True),), {},
]
BAD_RULES = [
    ("in", "z", (0,)), ("in", "a", ()), ("in", "a", (1, 0)), ("in", "a", (True,)), ("different", ("a",)),
    ("sum", ((0, "a"),), "=", 1), ("none", "a"), (), [], ["in", "a", (0,)], "in", 7, None, True,
    ("if", ("a", (0,)), ("if", ("a", (0,)), ("in", "a", (0,)))), ("or", (("a", (0,)), ("a", (1,)))),
]
ALL_VALUES = tuple(range(16))
RELATIONS = ("=", "<=", ">=", "!=")

SIMPLE = [
    ("in", "a", (1,)),
    ("in", "c", (0, 3)),
    ("in", "b", (2, 3, 4, 15)),
    ("in", "b", ALL_VALUES),
    ("in", "a", (2, 15)),
    *[("sum", ((1, "a"),), relation, 1) for relation in RELATIONS],
    *[("sum", ((-2, "c"),), relation, -4) for relation in RELATIONS],
    *[("sum", ((1, "c"), (1, "b")), relation, 4) for relation in RELATIONS],
    *[("sum", ((2, "b"), (-1, "c"), (3, "a")), relation, number) for relation in RELATIONS for number in (4, 27)],
    *[("sum", ((-1, "b"), (9, "a"), (-5, "c")), relation, -3) for relation in RELATIONS],
    ("sum", ((2, "a"), (2, "c")), "=", 3),
    ("sum", ((1, "a"), (1, "c")), "<=", -1),
    ("sum", ((1, "a"), (1, "c")), ">=", 5),
    ("sum", ((1, "a"), (1, "c")), "=", 1100),
    ("sum", ((1, "a"), (1, "c")), "!=", -1100),
    ("different", ("a", "c")),
    ("different", ("b", "a")),
    ("different", ("b", "a", "c")),
    ("equal", ("c", "a")),
    ("equal", ("b", "c")),
    ("equal", ("a", "c", "b")),
    ("table", ("a",), ((1,), (7,))),
    ("table", ("b", "a"), ((15, 0), (2, 1), (1, 1))),
    ("table", ("a", "c"), ((0, 1), (1, 2), (1, 2), (2, 2))),
    ("table", ("a", "b", "c"), ((0, 1, 2), (1, 2, 3), (1, 15, 0), (0, 15, 0))),
    ("table", ("a", "b"), ((2, 2), (0, 0))),
    ("count", ("c",), (1, 2), (1,)),
    ("count", ("c",), (1, 2), (0, 1)),
    ("count", ("a", "b"), (1,), (1,)),
    ("count", ("a", "b", "c"), (1, 2), (0, 2)),
    ("count", ("a", "b", "c"), (1, 2), (1, 3)),
    ("count", ("b", "c", "a"), (0, 1, 15), (2,)),
    ("count", ("a", "b"), (7,), (0, 5)),
    ("count", ("a", "b"), (7,), (1, 2)),
    ("element", "c", ("b", "a"), "a"),
    ("element", "c", ("a", "b", "b", "a"), "a"),
    ("element", "c", ("b", "c", "a"), "c"),
    ("element", "c", ("c", "c", "a"), "b"),
    ("element", "a", ("c", "b"), "a"),
    ("element", "a", ("c", "b", "a"), "b"),
    ("element", "a", ("a", "a"), "a"),
    ("element", "b", ("c", "a", "c"), "c"),
    ("element", "b", ("c",), "a"),
    ("or", ()),
    ("or", (("c", (0, 3)),)),
    ("or", (("b", (15,)), ("c", (0, 2)))),
    ("or", (("a", (1,)), ("b", (1, 2)), ("c", (3,)))),
    ("or", (("a", (5,)), ("b", (0, 2)))),
    ("or", (("a", (5,)), ("b", (0, 3)))),
]
# Sometimes, never and always satisfied, by a variable that the rule has or has not.
LITERALS = [("a", (1,)), ("c", (1, 2, 9)), ("b", (3, 14)), ("a", (0, 1))]
CONDITIONAL = [("if", literal, rule) for rule in SIMPLE[::2] for literal in LITERALS]
RULES = SIMPLE + CONDITIONAL

SIX_SIMPLE = [
    ("in", "f", (3, 15)),
    ("sum", tuple(zip((1, 2, -3, 4, -5, 6), "abcdef")), "=", 20),
    ("sum", tuple(zip((9, 9, -9, 9, 9, -9), "fbdeca")), "=", 90),
    ("sum", tuple(zip((2, 4, 6, 8, -2, -4), "abcdef")), "=", 7),
    ("sum", tuple(zip((1, 1, 1, 1, 1, 1), "abcdef")), "<=", 6),
    ("sum", tuple(zip((-1, -2, -1, -1, -1, -1), "abcdef")), ">=", -9),
    ("sum", tuple(zip((1, -1, 1, -1, 1, -1), "abcdef")), "!=", 0),
    ("sum", ((1, "f"), (-4, "b")), "=", -1),
    ("different", tuple("abcdef")),
    ("different", tuple("eacd")),
    ("equal", tuple("abdc")),
    ("equal", tuple("fbdc")),
    ("table", tuple("fedcba"), ((3, 2, 1, 0, 0, 1), (0, 3, 2, 1, 1, 2), (15, 2, 0, 5, 4, 3), (15, 3, 3, 5, 4, 3))),
    ("table", tuple("bd"), ((0, 1), (1, 2), (2, 0), (4, 2), (4, 4))),
    ("count", tuple("abcdef"), (0, 1), (2, 5)),
    ("count", tuple("fdb"), (0, 15), (0, 3)),
    ("element", "d", tuple("abcdef"), "f"),
    ("element", "b", tuple("ffbdaf"), "a"),
    ("element", "c", tuple("de"), "a"),
    ("or", (("a", (1, 2)), ("c", (5,)), ("b", (0, 1)), ("f", (3,)), ("e", (2,)), ("d", (1,)))),
]
SIX_RULES = SIX_SIMPLE + [("if", literal, rule) for rule in SIX_SIMPLE for literal in (("b", (0, 4)), ("c", (0, 7)))]


def grid(many, values):
    """A space of some variables with the same values."""
    return Space(tuple((name, values) for name in NAMES[:many]))


def drawn(space, rules, many, most):
    """Rows of rules and orders, always the same ones."""
    draws = random.Random(13)
    for _ in range(many):
        chosen = tuple(rules[draws.randrange(len(rules))] for _ in range(draws.randrange(most + 1)))
        names = sorted(space.names, key=lambda name: draws.random())[:draws.randrange(len(space) + 1)]
        yield chosen, tuple((name, ("up", "down")[draws.randrange(2)]) for name in names)
