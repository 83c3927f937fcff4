"""What rules leave and why: least cores, possible values, first solutions and best ones."""

from clashproved.papers import explain_best
from clashproved.rules import check_rules, satisfies_all, worth_of
from clashproved.search import decide
from clashproved.spaces import all_assignments, check_order


def least_core(space, rules):
    """The indices of the least core of rules, or None if they have a solution."""
    check_rules(space, rules)
    return _core_beside(space, rules, ())


def why_not(space, rules, name, value):
    """The indices of the least core beside a value of a variable, or None if the value is possible."""
    # Only to raise NoSuchName, which is the first error.
    space.place_of(name)
    check_rules(space, rules)
    return _core_beside(space, rules, (("in", name, (value,)),))


def _core_beside(space, rules, fixed):
    """The indices of the least core of rules beside fixed ones, which are never left out and not told, or None."""
    kept = list(range(len(rules)))
    used = _used(space, rules, kept, fixed)
    if used is None:
        return None
    for index in range(len(rules)):
        others = [at for at in kept if at != index]
        # Without a rule that a refutation does not use, it is one as before, so that there is nothing to decide.
        found = _used(space, rules, others, fixed) if index in used else used
        if found is not None:
            kept, used = others, found
    return tuple(kept)


def _used(space, rules, indices, fixed):
    """The indices of the rules that a refutation of those with these indices and the fixed ones uses, or None."""
    kind, told = decide(space, tuple([rules[index] for index in indices]) + fixed, ())
    if kind == "solution":
        return None
    places = {step[1] for step in told if step[0] == "rule"}
    return [index for place, index in enumerate(indices) if place in places]


def possible_values(space, rules):
    """The values that each variable has in some solution, ascending: a tuple for each variable."""
    check_rules(space, rules)
    kind, told = decide(space, rules, ())
    if kind == "refuted":
        return tuple([() for _ in space.names])
    # A solution shows a possible value for each variable, so that most values need no search of their own.
    found = [told]
    for place, (name, values) in enumerate(space.variables):
        for value in values:
            if value not in _values_at(found, place):
                kind, told = decide(space, (*rules, ("in", name, (value,))), ())
                if kind == "solution":
                    found.append(told)
    return tuple([_values_at(found, place) for place in range(len(space))])


def _values_at(assignments, place):
    return tuple(sorted(set([row[place] for row in assignments])))


def solutions(space, rules, order=(), *, most=100):
    """The list of the first solutions by the order, at most so many."""
    check_rules(space, rules)
    found = []
    for assignment in all_assignments(space, order):
        if len(found) >= most:
            break
        if satisfies_all(space, rules, assignment):
            found.append(assignment)
    return found


def best(space, rules, terms, direction, order=()):
    """The first one by the order of the solutions with the best worth, with this worth, or None."""
    check_rules(space, rules)
    check_order(space, order)
    return first_best(space, rules, terms, direction, order)


def first_best(space, rules, terms, direction, order):
    """What best tells, of rules and an order that are known to be such."""
    paper = explain_best(space, rules, terms, direction)
    if paper[0] == "refuted":
        return None
    worth = worth_of(space, terms, paper[1])
    _, first = decide(space, (*rules, ("sum", terms, "=", worth)), order)
    return (first, worth)
