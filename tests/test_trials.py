"""Point 23: trials, at whose end a desk is as it was when they were made, and foreseeing."""

import random
import unittest

from clashproved.desks import Desk
from clashproved.errors import BadRule, ClashError, NoSuchRule, NothingPushed, TooMany
from tests.desk_model import everything, filled, shown
from tests.helpers import strange_values
from tests.samples import BAD_RULES, DIFFERENT, EQUAL, PAIR, RULES, SPACE, drawn


class OwnError(Exception):
    """An error that the program knows nothing of."""


def some_desk():
    """A desk with rules, a removed one, and two levels."""
    desk = Desk(PAIR)
    desk.add(DIFFERENT)
    desk.add(("or", ()))
    desk.push()
    desk.remove(1)
    desk.push()
    desk.add(("in", "a", (0, 1)))
    return desk


class Trials(unittest.TestCase):
    def test_the_value_is_the_desk(self):
        desk = Desk(PAIR)
        with desk.tried() as held:
            self.assertIs(held, desk)
        with desk.tried() as held:
            held.add(DIFFERENT)
            self.assertEqual(desk.ids, (0,))
        self.assertEqual(desk.ids, ())

    def test_each_kind_of_change(self):
        for change in (
            lambda desk: desk.add(EQUAL), lambda desk: desk.remove(0), lambda desk: desk.push(),
            lambda desk: desk.pop(), lambda desk: desk.undo(), lambda desk: [desk.undo() for _ in range(20)],
            lambda desk: (desk.pop(), desk.pop()), lambda desk: (desk.add(EQUAL), desk.undo()),
            lambda desk: (desk.undo(), desk.undo(), desk.add(EQUAL)), lambda desk: None,
            lambda desk: (desk.pop(), desk.add(EQUAL), desk.push()),
        ):
            desk = some_desk()
            before = everything(desk)
            with desk.tried():
                change(desk)
            self.assertEqual(everything(desk), before)
            # What an ordinary caller sees of it is as it was, too: the next number, the levels and the changes.
            other = some_desk()
            self.assertEqual(desk.add(EQUAL), other.add(EQUAL))
            self.assertEqual((desk.pop(), desk.pop()), (other.pop(), other.pop()))
            while desk.undo():
                self.assertIs(other.undo(), True)
                self.assertEqual(shown(desk), shown(other))
            self.assertEqual(shown(desk), ((), 0))

    def test_the_next_number(self):
        desk = Desk(PAIR)
        desk.add(DIFFERENT)
        for _ in range(3):
            with desk.tried():
                self.assertEqual(desk.add(EQUAL), 1)
                self.assertEqual(desk.add(EQUAL), 2)
                desk.undo()
                self.assertEqual(desk.add(EQUAL), 3)
        self.assertEqual(desk.add(EQUAL), 1)

    def test_a_trial_that_ends_by_an_error(self):
        desk = some_desk()
        before = everything(desk)
        for error, change in (
            (OwnError, lambda: self.fail_behind_changes(desk)), (NoSuchRule, lambda: desk.remove(99)),
            (BadRule, lambda: desk.add(None)), (NothingPushed, lambda: [desk.pop() for _ in range(3)]),
            (TooMany, lambda: [desk.push() for _ in range(101)]),
            (TooMany, lambda: [desk.add(EQUAL) for _ in range(30)]),
        ):
            with self.assertRaises(error):
                with desk.tried():
                    desk.add(EQUAL)
                    change()
            self.assertEqual(everything(desk), before)
        self.assertEqual(desk.add(EQUAL), 3)

    def fail_behind_changes(self, desk):
        desk.pop()
        desk.undo()
        desk.push()
        raise OwnError

    def test_the_error_is_the_one_that_was_raised(self):
        desk = Desk(PAIR)
        error = OwnError("why")
        with self.assertRaises(OwnError) as caught:
            with desk.tried():
                raise error
        self.assertIs(caught.exception, error)

    def test_a_return_and_a_break_end_a_trial(self):
        desk = Desk(PAIR)

        def answer():
            with desk.tried():
                desk.add(DIFFERENT)
                return desk.ask()

        self.assertEqual(answer(), ("solution", (0, 1)))
        for _ in range(2):
            with desk.tried():
                desk.add(EQUAL)
                break
        self.assertEqual((desk.ids, desk.change_count), ((), 0))

    def test_trials_within_trials(self):
        desk = some_desk()
        first = everything(desk)
        with desk.tried():
            desk.add(EQUAL)
            second = everything(desk)
            with desk.tried():
                desk.pop()
                desk.pop()
                third = everything(desk)
                with self.assertRaises(OwnError):
                    with desk.tried() as held:
                        while held.undo():
                            pass
                        raise OwnError
                self.assertEqual(everything(desk), third)
                desk.push()
            self.assertEqual(everything(desk), second)
            self.assertEqual(desk.pop(), 1)
        self.assertEqual(everything(desk), first)

    def test_a_trial_is_of_when_it_was_made(self):
        desk = Desk(PAIR)
        desk.add(DIFFERENT)
        before = everything(desk)
        trial = desk.tried()
        desk.push()
        desk.add(EQUAL)
        self.assertEqual(desk.ids, (0, 1))
        with trial as held:
            self.assertIs(held, desk)
            self.assertEqual(desk.ids, (0, 1))
        self.assertEqual(everything(desk), before)
        desk.add(EQUAL)
        with trial:
            self.assertEqual(desk.ids, (0, 1))
            desk.remove(0)
        self.assertEqual(everything(desk), before)

    def test_a_trial_that_is_not_entered_changes_nothing(self):
        desk = some_desk()
        before = everything(desk)
        trial = desk.tried()
        self.assertEqual(everything(desk), before)
        desk.add(EQUAL)
        del trial
        self.assertEqual(desk.ids, (0, 2, 3))

    def test_room_behind_a_trial_is_as_it_was(self):
        desk = filled(PAIR, 29)
        while desk.change_count < 99:
            desk.push()
        with desk.tried():
            desk.add(EQUAL)
            self.assertEqual((len(desk), desk.change_count), (30, 100))
            with self.assertRaises(TooMany):
                desk.push()
        self.assertEqual((len(desk), desk.change_count), (29, 99))
        desk.add(EQUAL)

    def test_rows_of_changes(self):
        for seed in range(40):
            draws = random.Random(seed)
            desk = some_desk()
            self.change(draws, desk, 20)
            before = everything(desk)
            with desk.tried():
                self.change(draws, desk, 30)
                within = everything(desk)
                with desk.tried():
                    self.change(draws, desk, 30)
                self.assertEqual(everything(desk), within)
            self.assertEqual(everything(desk), before)

    def change(self, draws, desk, many):
        for _ in range(many):
            number = draws.randrange(30)
            change = draws.choice([
                lambda: desk.add(DIFFERENT), lambda: desk.remove(number), desk.push, desk.pop, desk.undo,
            ])
            try:
                change()
            except ClashError:
                pass


class Foreseeing(unittest.TestCase):
    def assert_refused(self, desk, error, rules):
        before = everything(desk)
        with self.assertRaises(ClashError) as caught:
            desk.foresee(rules)
        self.assertIs(type(caught.exception), error)
        self.assertEqual(everything(desk), before)

    def test_small_cases(self):
        desk = Desk(PAIR)
        self.assertEqual(desk.foresee((DIFFERENT,)), ("solution", (0, 1)))
        self.assertEqual(desk.foresee((DIFFERENT, EQUAL))[:3], ("refuted", (0, 1), ()))
        self.assertEqual(desk.foresee((EQUAL, ("or", ()), DIFFERENT))[:3], ("refuted", (1,), ()))
        self.assertEqual((desk.rules, desk.change_count), ((), 0))
        self.assertEqual(desk.add(DIFFERENT), 0)
        self.assertEqual(desk.foresee(rules=(EQUAL,))[:3], ("refuted", (0, 1), ()))
        desk.remove(0)
        desk.add(("in", "a", (0, 1)))
        self.assertEqual(desk.foresee((DIFFERENT, EQUAL))[:3], ("refuted", (2, 3), ()))
        self.assertEqual(desk.add(EQUAL), 2)

    def test_no_rules(self):
        for desk in (Desk(PAIR), some_desk(), filled(PAIR, 30)):
            before = everything(desk)
            self.assertEqual(desk.foresee(()), desk.ask())
            self.assertEqual(everything(desk), before)

    def test_it_tells_what_ask_would_tell(self):
        kinds = []
        for rules, _ in drawn(SPACE, RULES, 150, 6):
            desk = Desk(SPACE)
            for rule in rules[:2]:
                desk.add(rule)
            desk.push()
            before = everything(desk)
            foreseen = desk.foresee(rules[2:])
            self.assertEqual(everything(desk), before)
            for rule in rules[2:]:
                desk.add(rule)
            self.assertEqual(foreseen, desk.ask())
            kinds.append(foreseen[0])
        self.assertLess(10, kinds.count("refuted"))
        self.assertLess(10, kinds.count("solution"))

    def test_rules_that_are_none(self):
        for bad in BAD_RULES + strange_values():
            for rules in ((bad,), (DIFFERENT, bad), (DIFFERENT, EQUAL, bad, DIFFERENT)):
                self.assert_refused(some_desk(), BadRule, rules)

    def test_the_limit_of_rules(self):
        desk = filled(PAIR, 28)
        self.assertEqual(desk.foresee((DIFFERENT, EQUAL))[:3], ("refuted", (28, 29), ()))
        self.assert_refused(desk, TooMany, (DIFFERENT, EQUAL, DIFFERENT))
        self.assert_refused(desk, TooMany, (DIFFERENT, EQUAL, DIFFERENT, None))
        self.assert_refused(desk, BadRule, (DIFFERENT, EQUAL, None))
        self.assert_refused(desk, BadRule, (DIFFERENT, None, EQUAL, EQUAL))
        self.assert_refused(filled(PAIR, 30), TooMany, (DIFFERENT,))
        self.assert_refused(filled(PAIR, 30), BadRule, (("in", "z", (0,)),))

    def test_the_limit_of_changes(self):
        desk = Desk(PAIR)
        while desk.change_count < 98:
            desk.push()
        self.assertEqual(desk.foresee((DIFFERENT, EQUAL))[:3], ("refuted", (0, 1), ()))
        self.assert_refused(desk, TooMany, (DIFFERENT, EQUAL, DIFFERENT))
        desk.push()
        desk.push()
        self.assertEqual(desk.foresee(()), ("solution", (0, 0)))
        self.assert_refused(desk, TooMany, (DIFFERENT,))
        self.assert_refused(desk, BadRule, (None,))
        desk.undo()
        self.assertEqual(desk.foresee((DIFFERENT,)), ("solution", (0, 1)))

    def test_within_a_trial(self):
        desk = Desk(PAIR)
        with desk.tried():
            desk.add(DIFFERENT)
            self.assertEqual(desk.foresee((EQUAL,))[0], "refuted")
            self.assertEqual(desk.ids, (0,))
        self.assertEqual(desk.foresee((EQUAL,)), ("solution", (0, 0)))


if __name__ == "__main__":
    unittest.main()
