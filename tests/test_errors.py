"""Point 3: the errors and their bases."""

import unittest

from clashproved import errors
from clashproved.errors import ClashError, NoSuchRule

NAMES = ("BadSpace", "BadOrder", "BadRule", "BadTerms", "NoSuchName", "NoSuchRule", "NothingPushed", "TooMany")


class Errors(unittest.TestCase):
    def test_the_base_of_all_errors_is_a_value_error(self):
        self.assertEqual(ClashError.__bases__, (ValueError,))

    def test_each_error_is_directly_under_the_base(self):
        for name in NAMES:
            with self.subTest(name=name):
                self.assertEqual(getattr(errors, name).__bases__, (ClashError,))

    def test_no_error_is_another_one(self):
        found = [getattr(errors, name) for name in NAMES]
        for first in found:
            for second in found:
                self.assertEqual(issubclass(first, second), first is second)

    def test_errors_are_raised_with_a_message_and_caught_by_their_base(self):
        for name in NAMES:
            for base in (ClashError, ValueError):
                with self.subTest(name=name, base=base), self.assertRaises(base):
                    raise getattr(errors, name)("why")

    def test_no_such_rule_has_the_number(self):
        for number in (7, 0, -1, 100):
            self.assertEqual(NoSuchRule(number).number, number)

    def test_a_raised_no_such_rule_tells_the_number(self):
        with self.assertRaises(NoSuchRule) as caught:
            raise NoSuchRule(7)
        self.assertEqual(caught.exception.number, 7)
        self.assertIn("7", str(caught.exception))

    def test_two_errors_have_numbers_of_their_own(self):
        first, second = NoSuchRule(1), NoSuchRule(2)
        self.assertEqual((first.number, second.number), (1, 2))


if __name__ == "__main__":
    unittest.main()
