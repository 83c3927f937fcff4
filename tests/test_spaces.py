"""Point 4: spaces and their assignments."""

import unittest

from clashproved.errors import BadSpace, NoSuchName
from clashproved.spaces import Space
from tests.helpers import Thorny, every_assignment, strange_values, with_parts_replaced

BIT = (0, 1)
GOOD = [
    (("a", (0,)),),
    (("z", (15,)),),
    (("a", (0, 15)),),
    (("a", (0, 1, 2, 3, 4, 5)),),
    (("a", (10, 11, 12, 13, 14, 15)),),
    (("abcdefgh", BIT),),
    (("a1234567", BIT), ("z9", BIT), ("z90", BIT)),
    (("a0", BIT), ("a", BIT)),
    (("f", (3,)), ("e", (3,)), ("d", (3,)), ("c", (3,)), ("b", (3,)), ("a", (3,))),
    tuple((name, (0, 3, 5, 8, 14, 15)) for name in "abcdef"),
]
BAD = {
    "no variable": (),
    "seven variables": tuple((name, BIT) for name in "abcdefg"),
    "eight variables": tuple((name, BIT) for name in "abcdefgh"),
    "no value": (("a", ()),),
    "seven values": (("a", (0, 1, 2, 3, 4, 5, 6)),),
    "sixteen values": (("a", tuple(range(16))),),
    "the value -1": (("a", (-1, 0)),),
    "only the value -1": (("a", (-1,)),),
    "the value 16": (("a", (0, 16)),),
    "only the value 16": (("a", (16,)),),
    "descending values": (("a", (1, 0)),),
    "values that are ascending in part": (("a", (0, 2, 1)),),
    "values that descend at the front": (("a", (2, 1, 3)),),
    "a value twice": (("a", (1, 1)),),
    "a value twice behind others": (("a", (0, 1, 2, 2)),),
    "a name twice": (("a", BIT), ("a", (2, 3))),
    "a variable twice": (("a", BIT), ("b", BIT), ("a", BIT)),
    "an empty name": (("", BIT),),
    "a name with nine characters": (("abcdefghi", BIT),),
    "a name that begins with a digit": (("1a", BIT),),
    "a name that is a digit": (("0", BIT),),
    "a name that begins with a great letter": (("Ab", BIT),),
    "a name with a great letter": (("aB", BIT),),
    "a name that begins with a low line": (("_a", BIT),),
    "a name with a low line": (("a_b", BIT),),
    "a name with a blank": (("a b", BIT),),
    "a name with a blank at the end": (("a ", BIT),),
    "a name with a line feed at the end": (("a\n", BIT),),
    "a name with a hyphen": (("a-b", BIT),),
    "a name that begins with a sign beside the letters": (("`a", BIT),),
    "a name with another sign beside the letters": (("a{", BIT),),
    "a name with a letter beyond a to z": (("a\u00e9", BIT),),
    "a name that begins with a letter beyond a to z": (("\u00e9", BIT),),
    "a name with a letter of another script": (("a\u0430", BIT),),
    "a name with a digit of another script": (("a\u0661", BIT),),
    "a name with a raised digit": (("a\u00b2", BIT),),
    "a name with the sign ahead of the digits": (("a/", BIT),),
    "a name with the sign behind the digits": (("a:", BIT),),
    "a name that is bytes": ((b"a", BIT),),
    "a name that is a number": ((1, BIT),),
    "a name that is a tuple": ((("a",), BIT),),
    "a name that is a list": ((["a"], BIT),),
    "True as a value": (("a", (0, True)),),
    "False as a value": (("a", (False, 1)),),
    "a float as a value": (("a", (0, 1.0)),),
    "a string as a value": (("a", ("0", "1")),),
    "a tuple as a value": (("a", ((0,), (1,))),),
    "None as a value": (("a", (None,)),),
    "values as a list": (("a", [0, 1]),),
    "values as a set": (("a", {0, 1}),),
    "values as a range": (("a", range(2)),),
    "values as a number": (("a", 1),),
    "values as a string": (("a", "01"),),
    "values as bytes": (("a", b"\x00\x01"),),
    "values as None": (("a", None),),
    "a variable as a list": (["a", BIT],),
    "a variable with one part": (("a",),),
    "a variable with three parts": (("a", BIT, BIT),),
    "a variable without parts": ((),),
    "a variable as a string": ("ab",),
    "a variable as a number": (1,),
    "a variable as None": (None,),
    "a wrong variable behind a right one": (("a", BIT), ("b", (1, 0))),
    "variables as a list": [("a", BIT)],
    "variables as a dict": {"a": BIT},
    "variables that are a single variable": ("a", BIT),
    "a space": Space((("a", BIT),)),
}


class MakingSpaces(unittest.TestCase):
    def test_the_limits_are_class_values(self):
        self.assertEqual((Space.MOST_VARIABLES, Space.MOST_VALUES), (6, 6))
        self.assertEqual((Space(GOOD[0]).MOST_VARIABLES, Space(GOOD[0]).MOST_VALUES), (6, 6))

    def test_attributes(self):
        for variables in GOOD:
            with self.subTest(variables=variables):
                space = Space(variables)
                self.assertIs(space.variables, variables)
                self.assertEqual(space.names, tuple(name for name, _ in variables))
                self.assertIs(type(space.names), tuple)

    def test_every_number_of_variables_and_values(self):
        for many in range(1, 7):
            for values in range(1, 7):
                variables = tuple((name, tuple(range(values))) for name in "pqrstu"[:many])
                self.assertEqual(len(Space(variables)), many)

    def test_every_value_alone(self):
        for value in range(16):
            self.assertEqual(Space((("a", (value,)),)).values_of("a"), (value,))

    def test_every_first_character_and_every_other_one(self):
        letters, digits = "abcdefghijklmnopqrstuvwxyz", "0123456789"
        for code in range(400):
            sign = chr(code)
            with self.subTest(sign=sign):
                self.assertEqual(self.takes_name(sign), sign in letters)
                self.assertEqual(self.takes_name("x" + sign), sign in letters + digits)
                self.assertEqual(self.takes_name("x" + sign + "y"), sign in letters + digits)

    def takes_name(self, name):
        try:
            Space(((name, BIT),))
        except BadSpace:
            return False
        return True

    def test_every_length_of_a_name(self):
        for length in range(12):
            self.assertEqual(self.takes_name("n" * length), 1 <= length <= 8)

    def test_bad_spaces(self):
        for what, variables in BAD.items():
            with self.subTest(what), self.assertRaises(BadSpace):
                Space(variables)

    def test_parts_of_wrong_kinds_at_each_depth(self):
        for variables in ((("a", (0, 1)),), (("a", (0,)), ("b", (1, 2, 3)))):
            for wrong in with_parts_replaced(variables):
                with self.assertRaises(BadSpace, msg=repr(wrong)):
                    Space(wrong)


class AskingSpaces(unittest.TestCase):
    def setUp(self):
        self.space = Space((("b", (2, 5)), ("a", (0, 1, 15)), ("c1", (7,))))

    def test_place_of(self):
        self.assertEqual([self.space.place_of(name) for name in ("b", "a", "c1")], [0, 1, 2])

    def test_values_of(self):
        found = [self.space.values_of(name) for name in ("a", "b", "c1")]
        self.assertEqual(found, [(0, 1, 15), (2, 5), (7,)])

    def test_other_names(self):
        others = ["", "d", "c", "A", "B", "c11", "ab", " a", "a ", 0, 1, ("a",), ["a"], b"a", "b,a"]
        for name in others + strange_values():
            for method in (self.space.place_of, self.space.values_of):
                with self.assertRaises(NoSuchName, msg=repr(name)):
                    method(name)

    def test_length(self):
        self.assertEqual(len(self.space), 3)
        self.assertEqual([len(Space(variables)) for variables in GOOD], [1, 1, 1, 1, 1, 1, 3, 2, 6, 6])

    def test_equal_spaces(self):
        for variables in GOOD:
            copied = tuple((str(name), tuple(list(values))) for name, values in variables)
            self.assertIs(Space(variables) == Space(copied), True)
            self.assertIs(Space(variables) != Space(copied), False)

    def test_different_spaces(self):
        others = [
            (("a", (0, 1, 15)), ("b", (2, 5)), ("c1", (7,))),
            (("b", (2, 5)), ("a", (0, 1, 15))),
            (("b", (2, 5)), ("a", (0, 1, 15)), ("c1", (7,)), ("d", (7,))),
            (("b", (2, 5)), ("a", (0, 1, 14)), ("c1", (7,))),
            (("b", (2, 5)), ("a", (0, 1)), ("c1", (7,))),
            (("b", (2, 5)), ("a", (0, 1, 15)), ("c2", (7,))),
        ]
        for variables in others:
            self.assertIs(self.space == Space(variables), False)
            self.assertIs(self.space != Space(variables), True)

    def test_a_space_equals_nothing_else(self):
        for other in (self.space.variables, list(self.space.variables), None, 3, "b", True, (), object()):
            self.assertIs(self.space == other, False)
            self.assertIs(self.space != other, True)

    def test_a_look_alike_is_no_space(self):
        class LookAlike:
            variables = self.space.variables
            names = self.space.names

        self.assertIs(self.space == LookAlike(), False)


class Assignments(unittest.TestCase):
    def setUp(self):
        self.space = Space((("a", (0, 1)), ("b", (2, 5)), ("c", (1, 3, 15))))

    def told(self, value):
        found = self.space.is_assignment(value)
        self.assertIn(repr(found), ("True", "False"))
        return found

    def test_just_the_tuples_of_values_are_assignments(self):
        right = every_assignment(self.space)
        tried = [(a, b, c) for a in range(-1, 17) for b in range(-1, 17) for c in range(-1, 17)]
        self.assertEqual([row for row in tried if self.told(row)], sorted(right))

    def test_spaces_with_one_variable_and_with_six(self):
        one, six = Space((("a", (4,)),)), Space(tuple((name, (0, 15)) for name in "abcdef"))
        self.assertIs(one.is_assignment((4,)), True)
        self.assertIs(one.is_assignment((5,)), False)
        self.assertIs(one.is_assignment(4), False)
        self.assertIs(six.is_assignment((0, 15, 0, 15, 0, 15)), True)
        self.assertIs(six.is_assignment((0, 15, 0, 15, 0, 1)), False)

    def test_too_few_and_too_many_values(self):
        for value in ((), (0,), (0, 2), (0, 2, 1, 0), (0, 2, 1, 1), (0, 2, 1, 0, 2, 1)):
            self.assertIs(self.told(value), False)

    def test_values_of_another_variable(self):
        for value in ((2, 0, 1), (0, 1, 2), (5, 2, 3), (1, 3, 5), (3, 2, 1), (0, 2, 2), (0, 15, 1)):
            self.assertIs(self.told(value), False)

    def test_other_kinds(self):
        others = [
            [0, 2, 1], None, 0, 21, "021", b"\x00\x02\x01", {0, 2, 1}, {0: 0, 2: 2, 1: 1}, range(3), True, False,
            ((0, 2, 1),), ((0,), (2,), (1,)), (0, (2, 1)), ([0], 2, 1), (0, 2, None), ("0", "2", "1"), (0, 2, "1"),
            (0.0, 2, 1), (0, 2.0, 1), (0, 2, 1.0), (("a", 0), ("b", 2), ("c", 1)), self.space, object(), len,
        ]
        for value in others + strange_values():
            self.assertIs(self.told(value), False)

    def test_true_and_false_are_no_values(self):
        for value in ((False, 2, 1), (True, 2, 1), (0, 2, True), (False, 2, True), (1, 5, True)):
            self.assertIs(self.told(value), False)

    def test_parts_of_wrong_kinds(self):
        for value in with_parts_replaced((1, 5, 15)):
            self.assertIs(self.told(value), False)

    def test_a_thorny_part_behind_a_wrong_one(self):
        self.assertIs(self.told((0, 2, Thorny())), False)
        self.assertIs(self.told((Thorny(), 2, 1)), False)


if __name__ == "__main__":
    unittest.main()
