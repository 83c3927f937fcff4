"""Tell numbers, tuples and values from everything else, whatever it is."""

GREATEST_VALUE = 15


def is_number(value, least, greatest):
    """Tell whether a value is an integer from least to greatest."""
    # The exact kind, because True and False are no numbers here, though they are integers to Python.
    return type(value) == int and least <= value <= greatest


def is_tuple(value, least, most):
    """Tell whether a value is a tuple of least to most parts."""
    return type(value) == tuple and least <= len(value) <= most


def kind_of(value):
    """The text that stands ahead in a tuple, or None for everything else."""
    if type(value) != tuple or len(value) == 0:
        return None
    kind = value[0]
    if type(kind) != str:
        return None
    return kind


def are_values(value):
    """Tell whether a value is a tuple of at least one value, strictly ascending."""
    # No longer tuple can be strictly ascending.
    if not is_tuple(value, 1, GREATEST_VALUE + 1):
        return False
    if not all([is_number(part, 0, GREATEST_VALUE) for part in value]):
        return False
    return value == tuple(sorted(set(value)))


def none_twice(names):
    """Tell whether no name stands twice among some names."""
    return len(set(names)) == len(names)
