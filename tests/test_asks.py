"""Point 22 and the interface: what a desk tells of its rules, compared with going through all assignments."""

import random
import unittest

from clashproved.desks import Desk
from clashproved.errors import BadOrder, BadRule, BadTerms, ClashError
from clashproved.papers import judge
from tests.desk_model import everything
from tests.helpers import every_order, strange_values
from tests.judges import Judge
from tests.samples import (
    BAD_ORDERS, DIFFERENT, DIRECTIONS, EQUAL, ORDERS, PAIR, RULES, SIX, SIX_RULES, SPACE, TERMS, drawn,
)

BAD_LITERALS = [
    ("z", (0,)), ("a", ()), ("a", (1, 0)), ("a", (0, 0)), ("a", (True,)), ("a", 0), ("a", [0]), ["a", (0,)], ("a",),
    ("a", (0,), ()), (("a",), (0,)), ("a", (16,)), ("a", (-1,)), None, "a", 0, (), ("in", "a", (0,)), {"a": (0,)},
]
BAD_TERMS = [
    (), ((0, "a"),), ((10, "a"),), ((-10, "a"),), ((1, "z"),), ((1, "a"), (2, "a")), ((True, "a"),), ((1.0, "a"),),
    (("a", 1),), ((1, "a", 0),), ((1,),), [(1, "a")], ([1, "a"],), (1, "a"), None, 5, "a", {}, (None,), ((1, None),),
]


def desk_of(space, rules, gaps=False):
    """A desk with these rules, with others between them that were removed again."""
    desk = Desk(space)
    for at, rule in enumerate(rules):
        desk.add(rule)
        if gaps and at % 2 == 0:
            desk.remove(desk.add(("or", ())))
    return desk


class AskTests(unittest.TestCase):
    def assert_asked(self, told, desk, assumptions=(), order=()):
        """Compare with what the tests find themselves, and tell of which kind the answer is."""
        before = everything(desk)
        answer = desk.ask(assumptions, order)
        self.assertEqual(everything(desk), before)
        assumed = tuple(("in", name, values) for name, values in assumptions)
        rules = tuple(rule for _, rule in desk.rules) + assumed
        solutions = told.solutions(rules, order)
        self.assertIs(type(answer), tuple)
        if solutions:
            self.assertEqual(answer, ("solution", solutions[0]), (desk.rules, assumptions, order))
            return answer[0]
        kind, numbers, positions, steps = answer
        self.assertEqual((kind, type(numbers), type(positions)), ("refuted", tuple, tuple))
        core = told.core(rules)
        self.assertEqual(numbers, tuple(desk.ids[index] for index in core if index < len(desk)))
        self.assertEqual(positions, tuple(index - len(desk) for index in core if index >= len(desk)))
        chosen = tuple(dict(desk.rules)[number] for number in numbers) + tuple(assumed[at] for at in positions)
        self.assertTrue(told.takes(chosen, ("refuted", steps)), (desk.rules, assumptions))
        self.assertIs(judge(desk.space, chosen, ("refuted", steps)), True)
        return kind


class Asking(AskTests):
    def test_small_cases(self):
        desk = Desk(PAIR)
        self.assertEqual(desk.ask(), ("solution", (0, 0)))
        self.assertEqual(desk.ask((), (("b", "down"),)), ("solution", (0, 1)))
        self.assertEqual(desk.ask((("a", (1,)),)), ("solution", (1, 0)))
        self.assertEqual(desk.ask((("a", (5,)),))[:3], ("refuted", (), (0,)))
        desk.add(DIFFERENT)
        self.assertEqual(desk.ask((("a", (1,)),)), ("solution", (1, 0)))
        self.assertEqual(desk.ask((("a", (1,)), ("b", (1,))))[:3], ("refuted", (0,), (0, 1)))
        self.assertEqual(desk.ask((("a", (1,)), ("a", (0,)), ("b", (0,))))[:3], ("refuted", (), (0, 1)))
        desk.add(EQUAL)
        self.assertEqual(desk.ask()[:3], ("refuted", (0, 1), ()))
        self.assertEqual(desk.ask((("a", (1,)), ("b", (1,))))[:3], ("refuted", (0,), (0, 1)))
        desk.remove(0)
        self.assertEqual(desk.ask((("a", (1,)), ("b", (0,)), ("b", (0, 1))))[:3], ("refuted", (1,), (0, 1)))
        self.assertEqual(desk.ask((("a", (0, 1)), ("b", (1,)))), ("solution", (1, 1)))

    def test_assumptions_are_for_a_single_ask(self):
        desk = desk_of(PAIR, (DIFFERENT,))
        for _ in range(2):
            self.assertEqual(desk.ask((("a", (1,)), ("b", (1,))))[0], "refuted")
            self.assertEqual(desk.ask((("a", (1,)),)), ("solution", (1, 0)))
            self.assertEqual(desk.ask(), ("solution", (0, 1)))
        self.assertEqual((desk.ids, desk.change_count), ((0,), 1))

    def test_numbers_and_positions(self):
        told = Judge(PAIR)
        desk = desk_of(PAIR, (("in", "a", (0, 1)), DIFFERENT, ("in", "b", (0, 1)), ("in", "a", (1,))), True)
        self.assertEqual(desk.ids, (0, 2, 3, 5))
        for assumptions, numbers, positions in (
            ((("b", (1,)),), (2, 5), (0,)),
            ((("a", (0, 1)), ("b", (1,))), (2, 5), (1,)),
            ((("a", (1,)), ("b", (1,))), (2,), (0, 1)),
            ((("b", (1,)), ("a", (0,)), ("a", (1,))), (), (1, 2)),
            ((("b", (1,)), ("b", (1,)), ("a", (0, 1))), (2, 5), (1,)),
            ((("a", (0,)),), (5,), (0,)),
            ((("a", (0,)), ("a", (0,))), (5,), (1,)),
            ((("a", (2, 3)), ("a", (0,))), (), (0,)),
            ((("a", (0,)), ("a", (2, 3))), (), (1,)),
        ):
            self.assert_asked(told, desk, assumptions)
            self.assertEqual(desk.ask(assumptions)[1:3], (numbers, positions))

    def test_several_assumptions_on_one_variable(self):
        told = Judge(SPACE)
        desk = desk_of(SPACE, (("sum", ((1, "c"), (1, "b")), "<=", 4),), True)
        self.assertEqual(desk.ask((("c", (1, 2, 3)), ("c", (0, 2, 3)), ("c", (0, 1, 2)))), ("solution", (2, 0, 1)))
        self.assertEqual(desk.ask((("c", (1, 2)), ("c", (2, 3)), ("c", (1, 3))))[:3], ("refuted", (), (0, 1, 2)))
        self.assertEqual(desk.ask((("c", (2, 3)), ("c", (1, 3)), ("b", (2,))))[:3], ("refuted", (0,), (0, 1, 2)))
        literals = [("c", (1, 2)), ("c", (2, 3)), ("c", (1, 3)), ("b", (2, 15)), ("b", (7,)), ("a", (0, 1, 9))]
        for first in literals:
            for second in literals:
                for third in literals:
                    self.assert_asked(told, desk, (first, second, third), (("b", "down"),))

    def test_each_order(self):
        told = Judge(SPACE)
        desk = desk_of(SPACE, (("sum", ((1, "c"), (1, "b")), "=", 4), ("different", ("a", "c"))))
        for order in every_order(SPACE):
            for assumptions in ((), (("b", (1, 2)),), (("c", (3,)), ("a", (1,)))):
                self.assertEqual(self.assert_asked(told, desk, assumptions, order), "solution")
            self.assertEqual(self.assert_asked(told, desk, (("b", (1, 15)), ("c", (0, 1, 2))), order), "refuted")

    def test_drawn_rules_and_assumptions(self):
        draws = random.Random(5)
        for space, all_rules, many in ((SPACE, RULES, 300), (SIX, SIX_RULES, 30)):
            told = Judge(space)
            kinds = []
            for rules, order in drawn(space, all_rules, many, 5):
                desk = desk_of(space, rules, True)
                assumptions = tuple(
                    (name, tuple(value for value in range(16) if value in values[:2] or draws.randrange(9) == 0))
                    for name, values in (draws.choice(space.variables) for _ in range(draws.randrange(4)))
                )
                kinds.append(self.assert_asked(told, desk, assumptions, order))
            for kind in ("solution", "refuted"):
                self.assertGreater(kinds.count(kind), many // 10)

    def test_by_keyword(self):
        desk = desk_of(PAIR, (DIFFERENT,))
        self.assertEqual(desk.ask(order=(("a", "down"),), assumptions=(("b", (0, 1)),)), ("solution", (1, 0)))
        self.assertEqual(desk.ask(order=(("a", "down"),)), ("solution", (1, 0)))

    def test_levels_and_undo(self):
        told = Judge(PAIR)
        desk = desk_of(PAIR, (DIFFERENT,))
        desk.push()
        desk.add(EQUAL)
        self.assertEqual(self.assert_asked(told, desk), "refuted")
        desk.pop()
        self.assertEqual(self.assert_asked(told, desk), "solution")
        desk.undo()
        self.assertEqual(self.assert_asked(told, desk), "refuted")
        desk.add(("or", ()))
        self.assertEqual(desk.ask()[:3], ("refuted", (2,), ()))


class Errors(AskTests):
    def assert_refused(self, desk, error, call, *arguments):
        before = everything(desk)
        with self.assertRaises(ClashError) as caught:
            call(*arguments)
        self.assertIs(type(caught.exception), error, arguments)
        self.assertEqual(everything(desk), before)

    def desks(self):
        return [desk_of(PAIR, rules) for rules in ((), (DIFFERENT,), (DIFFERENT, EQUAL))]

    def test_an_assumption_that_is_no_literal(self):
        for desk in self.desks():
            for bad in BAD_LITERALS + strange_values():
                for assumptions in ((bad,), (("a", (0,)), bad), (("a", (0,)), ("a", (1,)), bad)):
                    self.assert_refused(desk, BadRule, desk.ask, assumptions)

    def test_something_that_is_no_order(self):
        for desk in self.desks():
            for bad in BAD_ORDERS + strange_values():
                for assumptions in ((), (("a", (0,)),), (("a", (0,)), ("a", (1,)))):
                    self.assert_refused(desk, BadOrder, desk.ask, assumptions, bad)

    def test_no_literal_and_no_order_at_once(self):
        for desk in self.desks():
            for literal in BAD_LITERALS:
                for order in BAD_ORDERS:
                    self.assert_refused(desk, BadRule, desk.ask, (("a", (0,)), literal), order)

    def test_terms_that_are_none(self):
        for desk in self.desks():
            for bad in BAD_TERMS + strange_values():
                for direction in DIRECTIONS:
                    self.assert_refused(desk, BadTerms, desk.best, bad, direction)

    def test_best_by_something_that_is_no_order(self):
        for desk in self.desks():
            for bad in BAD_ORDERS + strange_values():
                for direction in DIRECTIONS:
                    self.assert_refused(desk, BadOrder, desk.best, ((1, "a"),), direction, bad)

    def test_no_terms_and_no_order_at_once(self):
        for desk in self.desks():
            for terms in BAD_TERMS:
                for order in BAD_ORDERS:
                    self.assert_refused(desk, BadTerms, desk.best, terms, "least", order)


class Telling(AskTests):
    def test_core(self):
        desk = Desk(PAIR)
        self.assertIsNone(desk.core())
        desk = desk_of(PAIR, (DIFFERENT, EQUAL), True)
        self.assertEqual(desk.core(), (0, 2))
        desk.add(("or", ()))
        self.assertEqual(desk.core(), (3,))
        desk.undo()
        desk.remove(0)
        self.assertIsNone(desk.core())
        desk.add(DIFFERENT)
        self.assertEqual(desk.core(), (2, 4))

    def test_possible(self):
        desk = Desk(PAIR)
        self.assertEqual(desk.possible(), ((0, 1), (0, 1)))
        desk.add(("in", "a", (1, 3)))
        self.assertEqual(desk.possible(), ((1,), (0, 1)))
        desk.add(DIFFERENT)
        self.assertEqual(desk.possible(), ((1,), (0,)))
        desk.add(EQUAL)
        self.assertEqual(desk.possible(), ((), ()))

    def test_best(self):
        desk = Desk(PAIR)
        self.assertEqual(desk.best(((1, "a"),), "greatest"), ((1, 0), 1))
        desk.add(DIFFERENT)
        self.assertEqual(desk.best(((1, "a"), (2, "b")), "greatest"), ((0, 1), 2))
        self.assertEqual(desk.best(((1, "a"), (1, "b")), "least"), ((0, 1), 1))
        self.assertEqual(desk.best(((1, "a"), (1, "b")), "least", (("a", "down"),)), ((1, 0), 1))
        self.assertEqual(desk.best(terms=((1, "a"),), direction="least", order=(("a", "down"),)), ((0, 1), 0))
        desk.add(EQUAL)
        self.assertIsNone(desk.best(((1, "a"),), "least"))

    def test_drawn_rules(self):
        told = Judge(SPACE)
        for rules, order in drawn(SPACE, RULES, 150, 6):
            desk = desk_of(SPACE, rules, True)
            before = everything(desk)
            core = told.core(rules)
            self.assertEqual(desk.core(), None if core is None else tuple(desk.ids[index] for index in core))
            rows = told.solutions(rules, order)
            self.assertEqual(desk.possible(), tuple(tuple(sorted({row[at] for row in rows})) for at in range(3)))
            for terms in TERMS[::2]:
                for direction in DIRECTIONS:
                    worths = [told.worth(terms, row) for row in rows]
                    expected = None
                    if rows:
                        worth = min(worths) if direction == "least" else max(worths)
                        expected = rows[worths.index(worth)], worth
                    self.assertEqual(desk.best(terms, direction, order), expected)
            self.assertEqual(everything(desk), before)

    def test_thirty_rules(self):
        told = Judge(SPACE)
        for start in range(0, 60, 7):
            desk = desk_of(SPACE, RULES[start:start + 30])
            self.assertEqual(len(desk), 30)
            self.assert_asked(told, desk, (("c", (1, 2)),), ORDERS[start % 7])


if __name__ == "__main__":
    unittest.main()
