"""Spaces of variables with few values each, and orders of their assignments."""

from clashproved.errors import BadOrder, BadSpace, NoSuchName
from clashproved.shapes import are_values, is_tuple, none_twice

LETTERS = "abcdefghijklmnopqrstuvwxyz"
LETTERS_AND_DIGITS = "abcdefghijklmnopqrstuvwxyz0123456789"
LONGEST_NAME = 8
DIRECTIONS = ("up", "down")


class Space:
    """Some variables, each with a name and a few values."""

    MOST_VARIABLES = 6
    MOST_VALUES = 6

    def __init__(self, variables):
        if not _are_variables(variables):
            raise BadSpace("a space takes a tuple of pairs (name, values)")
        self.variables = variables
        self.names = tuple([name for name, _ in variables])

    def __eq__(self, other):
        return isinstance(other, Space) and self.variables == other.variables

    def __len__(self):
        return len(self.variables)

    def has_name(self, name):
        """Tell whether a variable has this name, whatever the name is."""
        return type(name) == str and name in self.names

    def place_of(self, name):
        """The place of a variable, from 0."""
        if not self.has_name(name):
            raise NoSuchName("no variable has this name")
        return self.names.index(name)

    def values_of(self, name):
        """The values of a variable, ascending."""
        _, values = self.variables[self.place_of(name)]
        return values

    def is_assignment(self, value):
        """Tell whether a value is a tuple of one of its values for each variable."""
        if not is_tuple(value, len(self.variables), len(self.variables)):
            return False
        for (_, values), chosen in zip(self.variables, value):
            if type(chosen) != int or chosen not in values:
                return False
        return True


def _are_variables(value):
    if not is_tuple(value, 1, Space.MOST_VARIABLES):
        return False
    if not all([_is_variable(part) for part in value]):
        return False
    return none_twice([name for name, _ in value])


def _is_variable(value):
    if not is_tuple(value, 2, 2):
        return False
    name, values = value
    return _is_name(name) and are_values(values) and len(values) <= Space.MOST_VALUES


def _is_name(value):
    if type(value) != str or not 1 <= len(value) <= LONGEST_NAME:
        return False
    return value[0] in LETTERS and all([sign in LETTERS_AND_DIGITS for sign in value])


def check_order(space, order):
    """Raise BadOrder if a value is no order of the space."""
    if not _is_order(space, order):
        raise BadOrder("an order is a tuple of pairs (name, direction), no name twice")


def _is_order(space, value):
    # An order with more pairs than the space has variables would name one of them twice.
    if not is_tuple(value, 0, len(space)):
        return False
    if not all([_is_directed_name(space, part) for part in value]):
        return False
    return none_twice([name for name, _ in value])


def _is_directed_name(space, value):
    if not is_tuple(value, 2, 2):
        return False
    name, direction = value
    return space.has_name(name) and type(direction) == str and direction in DIRECTIONS


def whole_order(space, order):
    """The order with the variables that it does not name behind those that it names."""
    named = [name for name, _ in order]
    return order + tuple([(name, "up") for name in space.names if name not in named])


def is_before(space, order, first, second):
    """Tell whether the first assignment comes ahead of the second one."""
    for name, direction in whole_order(space, order):
        place = space.place_of(name)
        if first[place] != second[place]:
            if direction == "up":
                return first[place] < second[place]
            return first[place] > second[place]
    return False


def ordered_values(space, name, direction):
    """The values of a variable, descending for "down"."""
    values = space.values_of(name)
    if direction == "down":
        return values[::-1]
    return values


def all_assignments(space, order):
    """The list of all assignments, by the order."""
    check_order(space, order)
    whole = whole_order(space, order)
    # Each row has its values in the order of the order, so that the rows come about sorted by it.
    rows = [()]
    for name, direction in whole:
        values = ordered_values(space, name, direction)
        rows = [row + (value,) for row in rows for value in values]
    ordered_names = [name for name, _ in whole]
    places = [ordered_names.index(name) for name in space.names]
    return [tuple([row[place] for place in places]) for row in rows]
