"""Values of wrong kinds, ways to put them in the place of parts of a right value, and lists to compare with."""

from itertools import permutations, product


class Thorny:
    """An object that raises an error at nearly everything that is done with it."""

    def _refuse(self, *rest):
        raise RuntimeError("a value of another kind was used")

    __eq__ = __ne__ = __lt__ = __le__ = __gt__ = __ge__ = _refuse
    __hash__ = __len__ = __iter__ = __bool__ = __contains__ = __getitem__ = __index__ = _refuse


def strange_values():
    """Values that are right nowhere in a space, an order, a rule or an assignment, at whatever depth."""
    return [
        None, True, False, 0.0, 1.0, 2000, -2000, 10 ** 30, 1j, "", " ", "?", "Z", "\u00e9", "in ", b"a", b"",
        [], [0], ["a"], {}, {"a": 1}, set(), {0}, frozenset((0,)), range(2), iter(()), object(), Thorny(), len,
        (None,), (True,), (False,), ((),), (((),),), ("",), (0.0,), ([],), (Thorny(),), ("a", 1), (Thorny(), Thorny()),
    ]


def with_parts_replaced(value, others=()):
    """Copies of nested tuples, one part of each, at any depth, replaced by a strange value or one of the others."""
    yield from strange_values()
    yield from others
    yield (value,)
    yield [value]
    if isinstance(value, tuple):
        yield list(value)
        yield dict(enumerate(value))
        for at, part in enumerate(value):
            for other in with_parts_replaced(part, others):
                yield value[:at] + (other,) + value[at + 1:]


def with_other_lengths(value):
    """Copies of nested tuples, one of them, at any depth, with a part less or a part more."""
    if isinstance(value, tuple):
        yield value + (None,)
        for at, part in enumerate(value):
            yield value[:at] + value[at + 1:]
            yield value[:at] + (part,) + value[at:]
            for other in with_other_lengths(part):
                yield value[:at] + (other,) + value[at + 1:]


def every_assignment(space):
    """All assignments of a space, ascending."""
    return list(product(*[values for _, values in space.variables]))


def every_order(space):
    """All orders of a space: of none, some and all variables, in all directions."""
    found = []
    for many in range(len(space) + 1):
        for names in permutations(space.names, many):
            found.extend(tuple(zip(names, directions)) for directions in product(("up", "down"), repeat=many))
    return found


def sorted_by(space, order):
    """All assignments, sorted by keys in which values that come ahead are lesser."""
    directions = dict(order)
    names = list(directions) + [name for name in space.names if name not in directions]

    def key(row):
        named = dict(zip(space.names, row))
        return [-named[name] if directions.get(name) == "down" else named[name] for name in names]

    return sorted(every_assignment(space), key=key)
