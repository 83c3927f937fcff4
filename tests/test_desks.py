"""Point 21: rules of a desk, their numbers, levels, and changes that can be undone, compared with a plain model."""

import random
import unittest

from clashproved import errors
from clashproved.desks import Desk
from clashproved.errors import BadRule, ClashError, NoSuchRule, NothingPushed, TooMany
from tests.desk_model import Model, Refused, everything, filled, shown
from tests.helpers import strange_values
from tests.samples import BAD_RULES, DIFFERENT, EQUAL, PAIR, SPACE

RULES = [DIFFERENT, EQUAL, ("in", "a", (0,)), ("or", ()), ("in", "b", (1, 15))]


class DeskTests(unittest.TestCase):
    def assert_refused(self, desk, error, call, *arguments):
        """See that a call raises an error and changes nothing, and tell the error."""
        before = everything(desk)
        with self.assertRaises(ClashError) as caught:
            call(*arguments)
        self.assertIs(type(caught.exception), error)
        self.assertEqual(everything(desk), before)
        return caught.exception


class Changes(DeskTests):
    def test_a_new_desk(self):
        desk = Desk(PAIR)
        self.assertIs(desk.space, PAIR)
        self.assertEqual((desk.rules, desk.ids, desk.change_count, len(desk), list(desk)), ((), (), 0, 0, []))
        self.assertLessEqual({"space", "rules", "ids"}, set(vars(desk)))
        self.assertEqual(Desk(space=PAIR).space, PAIR)

    def test_the_limits_are_class_values(self):
        self.assertEqual((Desk.MOST_RULES, Desk.MOST_CHANGES), (30, 100))
        self.assertEqual((vars(Desk)["MOST_RULES"], vars(Desk)["MOST_CHANGES"]), (30, 100))
        self.assertEqual((Desk(PAIR).MOST_RULES, Desk(PAIR).MOST_CHANGES), (30, 100))

    def test_add(self):
        desk = Desk(PAIR)
        for number, rule in enumerate(RULES):
            self.assertEqual(desk.add(rule), number)
            self.assertEqual(desk.rules, tuple(enumerate(RULES[:number + 1])))
            self.assertEqual(desk.ids, tuple(range(number + 1)))
            self.assertEqual(desk.change_count, number + 1)
        self.assertEqual(desk.add(RULES[0]), len(RULES))
        self.assertEqual(shown(desk), (tuple(enumerate(RULES + RULES[:1])), 6))

    def test_remove(self):
        desk = Desk(PAIR)
        for rule in RULES:
            desk.add(rule)
        for number, left in ((2, (0, 1, 3, 4)), (0, (1, 3, 4)), (4, (1, 3)), (1, (3,)), (3, ())):
            self.assertIsNone(desk.remove(number))
            self.assertEqual(desk.ids, left)
            self.assertEqual(desk.rules, tuple((number, RULES[number]) for number in left))
        self.assertEqual(desk.change_count, 10)
        self.assertEqual(desk.add(DIFFERENT), 5)
        self.assertEqual(desk.rules, ((5, DIFFERENT),))

    def test_only_one_of_equal_rules_is_removed(self):
        desk = Desk(PAIR)
        for _ in range(3):
            desk.add(DIFFERENT)
        desk.remove(1)
        self.assertEqual(desk.rules, ((0, DIFFERENT), (2, DIFFERENT)))

    def test_levels(self):
        desk = Desk(PAIR)
        desk.add(RULES[0])
        self.assertEqual(desk.push(), 1)
        desk.add(RULES[1])
        desk.remove(0)
        self.assertEqual(desk.push(), 2)
        self.assertEqual(desk.push(), 3)
        desk.add(RULES[2])
        self.assertEqual(desk.ids, (1, 2))
        self.assertEqual(desk.pop(), 2)
        self.assertEqual(desk.rules, ((1, RULES[1]),))
        self.assertEqual(desk.pop(), 1)
        self.assertEqual(desk.rules, ((1, RULES[1]),))
        self.assertEqual(desk.add(RULES[3]), 3)
        self.assertEqual(desk.pop(), 0)
        self.assertEqual(desk.rules, ((0, RULES[0]),))
        self.assertEqual(desk.change_count, 11)
        self.assertEqual(desk.add(RULES[4]), 4)
        self.assert_refused(desk, NothingPushed, desk.pop)

    def test_push_and_pop_keep_the_rules(self):
        desk = Desk(PAIR)
        desk.add(RULES[0])
        for many in range(1, 4):
            self.assertEqual(desk.push(), many)
            self.assertEqual(shown(desk), (((0, RULES[0]),), many + 1))
        for many in (2, 1, 0):
            self.assertEqual(desk.pop(), many)
            self.assertEqual(desk.ids, (0,))

    def test_undo_of_each_kind_of_change(self):
        desk = Desk(PAIR)
        desk.add(RULES[0])
        desk.add(RULES[1])
        desk.push()
        desk.remove(0)
        desk.pop()
        self.assertEqual(desk.ids, (0, 1))
        self.assertIs(desk.undo(), True)
        self.assertEqual(desk.ids, (1,))
        self.assertEqual(desk.pop(), 0)
        self.assertIs(desk.undo(), True)
        self.assertIs(desk.undo(), True)
        self.assertEqual(desk.ids, (0, 1))
        self.assertIs(desk.undo(), True)
        self.assert_refused(desk, NothingPushed, desk.pop)
        self.assertIs(desk.undo(), True)
        self.assertEqual(desk.rules, ((0, RULES[0]),))
        self.assertIs(desk.undo(), True)
        self.assertEqual(shown(desk), ((), 0))
        for _ in range(3):
            self.assertIs(desk.undo(), False)
            self.assertEqual(shown(desk), ((), 0))
        self.assertEqual(desk.add(RULES[2]), 2)

    def test_numbers_are_never_used_again(self):
        desk = Desk(PAIR)
        self.assertEqual(desk.add(DIFFERENT), 0)
        desk.undo()
        self.assertEqual(desk.add(DIFFERENT), 1)
        desk.remove(1)
        self.assertEqual(desk.add(DIFFERENT), 2)
        desk.push()
        self.assertEqual(desk.add(DIFFERENT), 3)
        desk.pop()
        self.assertEqual(desk.add(DIFFERENT), 4)
        while desk.undo():
            pass
        self.assertEqual(desk.add(DIFFERENT), 5)
        self.assertEqual(desk.rules, ((5, DIFFERENT),))

    def test_a_pop_that_is_undone_may_be_done_again(self):
        desk = Desk(PAIR)
        desk.push()
        desk.add(DIFFERENT)
        for _ in range(3):
            self.assertEqual(desk.pop(), 0)
            self.assertEqual(shown(desk), ((), 3))
            desk.undo()
            self.assertEqual(shown(desk), (((0, DIFFERENT),), 2))

    def test_what_a_desk_told_stays_as_it_is(self):
        desk = Desk(PAIR)
        desk.add(DIFFERENT)
        rules, ids, numbers = desk.rules, desk.ids, iter(desk)
        desk.add(EQUAL)
        desk.remove(0)
        self.assertEqual((rules, ids, list(numbers)), (((0, DIFFERENT),), (0,), [0]))
        self.assertEqual((desk.ids, list(desk)), ((1,), [1]))

    def test_desks_do_not_share_anything(self):
        first, second = Desk(PAIR), Desk(PAIR)
        first.add(DIFFERENT)
        first.push()
        self.assertEqual(shown(second), ((), 0))
        self.assert_refused(second, NothingPushed, second.pop)
        self.assertEqual(second.add(EQUAL), 0)
        self.assertEqual(shown(first), (((0, DIFFERENT),), 2))

    def test_rows_of_changes(self):
        for seed in range(60):
            self.compare(random.Random(seed), 250, (8, 4, 3, 3, 3) if seed % 2 else (20, 1, 3, 1, 1))

    def compare(self, draws, many, weights):
        desk, model = Desk(PAIR), Model()
        for _ in range(many):
            kind, = draws.choices(("add", "remove", "push", "pop", "undo"), weights)
            arguments = ()
            if kind == "add":
                arguments = (draws.choice(RULES),)
            if kind == "remove":
                arguments = (draws.choice(list(desk.ids) + [model.next_number, -1, draws.randrange(40)]),)
            before = desk.rules, desk.ids
            try:
                expected = getattr(model, kind)(*arguments)
            except Refused as refused:
                with self.assertRaises(ClashError) as caught:
                    getattr(desk, kind)(*arguments)
                self.assertIs(type(caught.exception), getattr(errors, str(refused)))
                self.assertEqual((desk.rules, desk.ids), before)
            else:
                found = getattr(desk, kind)(*arguments)
                self.assertEqual((type(found), found), (type(expected), expected))
            self.assertEqual(shown(desk), model.shown())


class Limits(DeskTests):
    def test_thirty_rules(self):
        desk = filled(PAIR, 30)
        self.assertEqual(len(desk), 30)
        self.assert_refused(desk, TooMany, desk.add, DIFFERENT)
        desk.remove(7)
        self.assertEqual(desk.add(DIFFERENT), 30)
        self.assert_refused(desk, TooMany, desk.add, DIFFERENT)
        desk.undo()
        self.assertEqual(desk.add(DIFFERENT), 31)
        self.assertEqual(desk.ids, tuple(number for number in range(30) if number != 7) + (31,))
        self.assertEqual(len(filled(PAIR, 29)), 29)
        self.assertEqual(filled(PAIR, 29).add(DIFFERENT), 29)

    def test_thirty_rules_in_levels(self):
        desk = filled(PAIR, 29)
        desk.push()
        self.assertEqual(desk.add(DIFFERENT), 29)
        self.assert_refused(desk, TooMany, desk.add, EQUAL)
        self.assertEqual(desk.push(), 2)
        self.assertEqual(desk.pop(), 1)
        self.assertEqual(desk.pop(), 0)
        self.assertEqual(desk.add(EQUAL), 30)

    def full(self):
        """A desk with a rule, a level and as many changes as can be."""
        desk = Desk(PAIR)
        desk.add(DIFFERENT)
        while desk.change_count < 100:
            desk.push()
        return desk

    def test_a_hundred_changes(self):
        desk = self.full()
        self.assertEqual(desk.change_count, 100)
        for call, arguments in ((desk.add, (EQUAL,)), (desk.remove, (0,)), (desk.push, ()), (desk.pop, ())):
            self.assert_refused(desk, TooMany, call, *arguments)
            desk.undo()
            self.assertEqual(desk.change_count, 99)
            call(*arguments)
            self.assertEqual(desk.change_count, 100)
            self.assert_refused(desk, TooMany, desk.push)
        for many in range(99, -1, -1):
            self.assertIs(desk.undo(), True)
            self.assertEqual(desk.change_count, many)
        self.assertIs(desk.undo(), False)
        self.assertEqual(desk.add(EQUAL), 2)

    def test_an_undo_is_no_change(self):
        desk = self.full()
        for _ in range(5):
            desk.undo()
            self.assertEqual(desk.push(), 99)
        for _ in range(5):
            desk.undo()
        self.assertEqual(desk.change_count, 95)

    def test_which_error_is_raised_first(self):
        desk = self.full()
        for bad in BAD_RULES:
            self.assert_refused(desk, BadRule, desk.add, bad)
        for number in (1, -1, 30, 1000):
            self.assertEqual(self.assert_refused(desk, NoSuchRule, desk.remove, number).number, number)
        desk = Desk(PAIR)
        desk.add(DIFFERENT)
        while desk.change_count < 100:
            desk.add(DIFFERENT) if len(desk) == 0 else desk.remove(desk.ids[0])
        self.assert_refused(desk, NothingPushed, desk.pop)
        self.assert_refused(desk, TooMany, desk.push)
        desk = filled(PAIR, 30)
        for bad in BAD_RULES:
            self.assert_refused(desk, BadRule, desk.add, bad)


class Errors(DeskTests):
    def test_something_that_is_no_rule(self):
        desk = Desk(PAIR)
        desk.add(DIFFERENT)
        for bad in BAD_RULES + strange_values():
            self.assert_refused(desk, BadRule, desk.add, bad)
        self.assertEqual(desk.add(EQUAL), 1)

    def test_rules_of_another_space(self):
        desk = Desk(PAIR)
        self.assert_refused(desk, BadRule, desk.add, ("in", "c", (1,)))
        self.assertEqual(Desk(SPACE).add(("in", "c", (1,))), 0)

    def test_numbers_that_no_active_rule_has(self):
        desk = Desk(PAIR)
        self.assertEqual(self.assert_refused(desk, NoSuchRule, desk.remove, 0).number, 0)
        for rule in RULES:
            desk.add(rule)
        desk.remove(3)
        desk.push()
        desk.add(DIFFERENT)
        desk.pop()
        for number in (-1, 3, 5, 6, 99, 10 ** 20):
            self.assertEqual(self.assert_refused(desk, NoSuchRule, desk.remove, number).number, number)
        for other in (True, False, None, "0", (0,), 0.0):
            self.assertIs(self.assert_refused(desk, NoSuchRule, desk.remove, other).number, other)
        desk.remove(0)
        self.assertEqual(self.assert_refused(desk, NoSuchRule, desk.remove, 0).number, 0)

    def test_a_pop_without_a_level(self):
        desk = Desk(PAIR)
        self.assert_refused(desk, NothingPushed, desk.pop)
        desk.add(DIFFERENT)
        self.assert_refused(desk, NothingPushed, desk.pop)
        desk.push()
        desk.undo()
        self.assert_refused(desk, NothingPushed, desk.pop)
        desk.push()
        desk.pop()
        self.assert_refused(desk, NothingPushed, desk.pop)
        desk.undo()
        self.assertEqual(desk.pop(), 0)


if __name__ == "__main__":
    unittest.main()
