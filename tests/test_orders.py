"""Point 5: orders of the assignments of a space."""

import unittest
from itertools import combinations

from clashproved.errors import BadOrder, NoSuchName
from clashproved.spaces import Space, all_assignments, check_order, is_before, ordered_values, whole_order
from tests.helpers import every_order, sorted_by, with_parts_replaced

SPACE = Space((("a", (0, 1)), ("b", (2, 5, 9)), ("c", (3, 4))))
BAD = {
    "a name twice": (("a", "up"), ("a", "up")),
    "a name twice, in two directions": (("a", "up"), ("a", "down")),
    "a name twice, apart": (("a", "up"), ("b", "up"), ("a", "up")),
    "more pairs than variables": (("a", "up"), ("b", "up"), ("c", "up"), ("a", "up")),
    "an unknown name": (("d", "up"),),
    "an unknown name behind all others": (("a", "up"), ("b", "up"), ("c", "up"), ("d", "up")),
    "an empty name": (("", "up"),),
    "two names in one": (("ab", "up"),),
    "a great letter": (("A", "up"),),
    "an unknown direction": (("a", "left"),),
    "an empty direction": (("a", ""),),
    "a direction in great letters": (("a", "UP"),),
    "a part of a direction": (("a", "u"),),
    "both directions in one": (("a", "updown"),),
    "an unknown direction behind a right one": (("b", "down"), ("a", "least")),
    "True for a direction": (("a", True),),
    "1 for a direction": (("a", 1),),
    "None for a direction": (("a", None),),
    "a tuple for a direction": (("a", ("up",)),),
    "bytes for a direction": (("a", b"up"),),
    "a pair the wrong way round": (("up", "a"),),
    "a place for a name": ((0, "up"),),
    "a name alone": ("a",),
    "a name alone in a tuple": (("a",),),
    "a pair with a third part": (("a", "up", "up"),),
    "an empty pair": ((),),
    "a pair as a list": (["a", "up"],),
    "a pair as a string": ("au",),
    "a single pair": ("a", "up"),
    "a list": [("a", "up")],
    "an empty list": [],
    "a dict": {"a": "up"},
    "an empty dict": {},
    "a set": {("a", "up")},
    "a string": "up",
    "an empty string": "",
    "a number": 0,
    "None": None,
    "True": True,
    "False": False,
}


class CheckingOrders(unittest.TestCase):
    def test_orders_are_taken(self):
        self.assertEqual(len(every_order(SPACE)), 1 + 3 * 2 + 6 * 4 + 6 * 8)
        for order in every_order(SPACE):
            self.assertIsNone(check_order(SPACE, order))

    def test_an_order_of_six_variables_is_taken(self):
        space = Space(tuple((name, (0, 1)) for name in "abcdef"))
        check_order(space, tuple((name, "down") for name in "fbdaec"))

    def test_bad_orders(self):
        for what, order in BAD.items():
            for function in (check_order, all_assignments):
                with self.subTest(what, function=function), self.assertRaises(BadOrder):
                    function(SPACE, order)

    def test_parts_of_wrong_kinds_at_each_depth(self):
        for order in ((("b", "down"),), (("c", "up"), ("a", "down"))):
            for wrong in with_parts_replaced(order, ["zz", "down "]):
                for function in (check_order, all_assignments):
                    with self.assertRaises(BadOrder, msg=repr(wrong)):
                        function(SPACE, wrong)


class WholeOrders(unittest.TestCase):
    def test_variables_that_are_not_named_follow_upward_in_the_order_of_the_space(self):
        cases = {
            (): (("a", "up"), ("b", "up"), ("c", "up")),
            (("c", "up"),): (("c", "up"), ("a", "up"), ("b", "up")),
            (("b", "down"),): (("b", "down"), ("a", "up"), ("c", "up")),
            (("c", "down"), ("b", "up")): (("c", "down"), ("b", "up"), ("a", "up")),
            (("b", "down"), ("a", "down")): (("b", "down"), ("a", "down"), ("c", "up")),
            (("c", "down"), ("b", "up"), ("a", "down")): (("c", "down"), ("b", "up"), ("a", "down")),
        }
        for order, whole in cases.items():
            with self.subTest(order=order):
                self.assertEqual(whole_order(SPACE, order), whole)

    def test_the_order_of_the_space_is_not_that_of_the_letters(self):
        space = Space((("q", (0,)), ("b", (0,)), ("z", (0,)), ("a", (0,))))
        found = whole_order(space, (("z", "down"),))
        self.assertEqual(found, (("z", "down"), ("q", "up"), ("b", "up"), ("a", "up")))

    def test_whole_orders_are_orders_with_all_variables(self):
        for order in every_order(SPACE):
            whole = whole_order(SPACE, order)
            check_order(SPACE, whole)
            self.assertEqual(whole[:len(order)], order)
            self.assertEqual(len(whole), 3)
            self.assertEqual(whole_order(SPACE, whole), whole)
            self.assertEqual(all_assignments(SPACE, whole), all_assignments(SPACE, order))


class OrderedValues(unittest.TestCase):
    def test_both_directions(self):
        found = [ordered_values(SPACE, "b", direction) for direction in ("up", "down")]
        self.assertEqual(found, [(2, 5, 9), (9, 5, 2)])
        found = [ordered_values(SPACE, "c", direction) for direction in ("up", "down")]
        self.assertEqual(found, [(3, 4), (4, 3)])

    def test_a_single_value(self):
        space = Space((("a", (0,)), ("b", (15,))))
        for direction in ("up", "down"):
            self.assertEqual(ordered_values(space, "b", direction), (15,))

    def test_six_values(self):
        space = Space((("a", (0, 3, 5, 8, 14, 15)),))
        self.assertEqual(ordered_values(space, "a", "down"), (15, 14, 8, 5, 3, 0))

    def test_an_unknown_name(self):
        with self.assertRaises(NoSuchName):
            ordered_values(SPACE, "d", "up")


class AllAssignments(unittest.TestCase):
    def test_the_example_of_the_document(self):
        space = Space((("a", (0, 1)), ("b", (2, 5))))
        self.assertEqual(all_assignments(space, (("b", "down"),)), [(0, 5), (1, 5), (0, 2), (1, 2)])

    def test_small_lists(self):
        space = Space((("a", (0, 1)), ("b", (2, 5))))
        cases = {
            (): [(0, 2), (0, 5), (1, 2), (1, 5)],
            (("a", "down"),): [(1, 2), (1, 5), (0, 2), (0, 5)],
            (("b", "up"),): [(0, 2), (1, 2), (0, 5), (1, 5)],
            (("b", "up"), ("a", "down")): [(1, 2), (0, 2), (1, 5), (0, 5)],
            (("a", "down"), ("b", "down")): [(1, 5), (1, 2), (0, 5), (0, 2)],
        }
        for order, rows in cases.items():
            with self.subTest(order=order):
                self.assertEqual(all_assignments(space, order), rows)

    def test_all_orders_against_sorting_by_keys(self):
        for order in every_order(SPACE):
            with self.subTest(order=order):
                found = all_assignments(SPACE, order)
                self.assertIs(type(found), list)
                self.assertEqual(found, sorted_by(SPACE, order))

    def test_all_are_assignments(self):
        for row in all_assignments(SPACE, (("b", "down"),)):
            self.assertIs(SPACE.is_assignment(row), True)

    def test_one_variable(self):
        space = Space((("a", (3, 4)),))
        self.assertEqual(all_assignments(space, ()), [(3,), (4,)])
        self.assertEqual(all_assignments(space, (("a", "down"),)), [(4,), (3,)])

    def test_the_greatest_space(self):
        space = Space(tuple((name, (0, 1, 2, 3, 4, 5)) for name in "abcdef"))
        order = (("e", "down"), ("a", "up"))
        found = all_assignments(space, order)
        self.assertEqual(len(found), 6 ** 6)
        self.assertEqual(found, sorted_by(space, order))

    def test_a_space_that_shares_names_with_another_has_its_own_list(self):
        other = Space((("a", (0,)), ("b", (2, 5))))
        all_assignments(SPACE, ())
        self.assertEqual(all_assignments(other, ()), [(0, 2), (0, 5)])


class ComingAhead(unittest.TestCase):
    def test_all_pairs_are_told_apart_as_the_list_does(self):
        for order in every_order(SPACE):
            rows = all_assignments(SPACE, order)
            for ahead, behind in combinations(rows, 2):
                self.assertIs(is_before(SPACE, order, ahead, behind), True)
                self.assertIs(is_before(SPACE, order, behind, ahead), False)

    def test_values_with_two_digits_are_compared_as_numbers(self):
        space = Space((("a", (2, 10)), ("b", (9, 15))))
        self.assertIs(is_before(space, (), (2, 15), (10, 9)), True)
        self.assertIs(is_before(space, (("a", "down"),), (2, 9), (10, 9)), False)

    def test_no_assignment_comes_ahead_of_itself(self):
        for order in ((), (("b", "down"),)):
            self.assertIs(is_before(SPACE, order, (0, 5, 3), (0, 5, 3)), False)


if __name__ == "__main__":
    unittest.main()
