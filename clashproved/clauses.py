"""Clauses over the variables of a space: which values are clauses, what satisfies them, and resolution."""

from clashproved.rules import is_literal, satisfies_literal
from clashproved.shapes import is_tuple


def is_clause(space, value):
    """Tell whether a value is a clause of the space, whatever it is."""
    # A clause with more literals than the space has variables would name one of them twice.
    if not is_tuple(value, 0, len(space)):
        return False
    if not all([_is_literal_of_own_values(space, part) for part in value]):
        return False
    places = [space.place_of(name) for name, _ in value]
    return places == sorted(set(places))


def _is_literal_of_own_values(space, value):
    if not is_literal(space, value):
        return False
    name, values = value
    return all([part in space.values_of(name) for part in values])


def values_in(clause, name):
    """The values of a clause for a variable, () if it has none."""
    for named, values in clause:
        if named == name:
            return values
    return ()


def satisfies_clause(space, clause, assignment):
    """Tell whether an assignment satisfies one of the literals of a clause."""
    return any([satisfies_literal(space, literal, assignment) for literal in clause])


def resolvent(space, first, second, name):
    """The resolvent of two clauses on a variable."""
    literals = []
    for other, values in space.variables:
        one, two = values_in(first, other), values_in(second, other)
        if other == name:
            left = tuple([value for value in values if value in one and value in two])
        else:
            left = tuple([value for value in values if value in one or value in two])
        if len(left) > 0:
            literals.append((other, left))
    return tuple(literals)
