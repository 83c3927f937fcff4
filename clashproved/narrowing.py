"""What a rule leaves of domains, why it leaves nothing, and which clauses it implies."""

from clashproved.clauses import values_in
from clashproved.rules import names_of


def is_consistent(space, rule, domains):
    """Tell whether the variables of a rule can have values, each from its domain, that satisfy it."""
    named = _by_name(space, domains)
    if any([len(named[name]) == 0 for name in names_of(space, rule)]):
        return False
    return _can_hold(rule, named)


def is_implied(space, rule, clause):
    """Tell whether every assignment that satisfies a rule satisfies a clause."""
    domains = tuple([_without(values, values_in(clause, name)) for name, values in space.variables])
    return () in domains or not is_consistent(space, rule, domains)


def filtered(space, rule, domains):
    """The domains with only those values with which alone as its variable's domain the rule is consistent."""
    if not is_consistent(space, rule, domains):
        return tuple([() for _ in domains])
    named = _by_name(space, domains)
    names = names_of(space, rule)
    return tuple([_left_of(rule, named, name) if name in names else named[name] for name in space.names])


def explanation(space, rule, domains):
    """The clause that tells why a rule is inconsistent with domains."""
    widened = domains
    kept = []
    for name in names_of(space, rule):
        wider = with_domain(space, widened, name, space.values_of(name))
        if is_consistent(space, rule, wider):
            kept.append(name)
        else:
            widened = wider
    return tuple([(name, _missing(space, domains, name)) for name in kept])


def with_domain(space, domains, name, values):
    """The domains with other values for one variable."""
    place = space.place_of(name)
    return domains[:place] + (values,) + domains[place + 1:]


def _by_name(space, domains):
    return dict(zip(space.names, domains))


def _without(values, others):
    return tuple([value for value in values if value not in others])


def _missing(space, domains, name):
    return _without(space.values_of(name), domains[space.place_of(name)])


def _meet(values, others):
    return any([value in others for value in values])


def _left_of(rule, named, name):
    """The values of a variable of a rule that is known to be consistent with which alone it still is."""
    return tuple([value for value in named[name] if _can_hold(rule, {**named, name: (value,)})])


# The functions below get the parts of a rule behind its kind, and the domains by name, none of them empty for a
# variable of the rule. Except in "element" and "if", each name stands once, so that each value is chosen freely.


def _can_be_in(parts, named):
    name, values = parts
    return _meet(named[name], values)


def _can_sum(parts, named):
    terms, relation, number = parts
    worths = [[factor * value for value in named[name]] for factor, name in terms]
    least = sum([min(row) for row in worths])
    greatest = sum([max(row) for row in worths])
    if relation == "<=":
        return least <= number
    if relation == ">=":
        return greatest >= number
    if relation == "!=":
        return least != number or greatest != number
    return least <= number <= greatest and _can_add_up(worths, number - least)


def _can_add_up(worths, above):
    """Tell whether one number of each row can be taken so that the sum is so far above the least one."""
    # A bit for each sum, because there are up to some hundreds of them: bit k tells that k above the least is reached.
    sums = 1
    for row in worths:
        least = min(row)
        reached = 0
        for worth in row:
            reached = reached | (sums << (worth - least))
        sums = reached
    return (sums >> above) & 1 == 1


def _can_differ(parts, named):
    # The shortest domains ahead, because they leave the fewest tries.
    return _can_take_others(sorted([named[name] for name in parts[0]], key=len), ())


def _can_take_others(domains, taken):
    """Tell whether a value of each domain can be taken, none twice and none that is taken already."""
    if len(domains) == 0:
        return True
    for value in domains[0]:
        if value not in taken and _can_take_others(domains[1:], taken + (value,)):
            return True
    return False


def _can_be_equal(parts, named):
    names = parts[0]
    return any([all([value in named[name] for name in names]) for value in named[names[0]]])


def _can_be_row(parts, named):
    names, rows = parts
    return any([all([value in named[name] for name, value in zip(names, row)]) for row in rows])


def _can_count(parts, named):
    names, values, numbers = parts
    most = len([name for name in names if _meet(named[name], values)])
    least = len([name for name in names if len(_without(named[name], values)) == 0])
    return any([least <= number <= most for number in numbers])


def _can_be_found(parts, named):
    index, names, name = parts
    for at in named[index]:
        # With its value fixed, the index may also be the variable that is told or the one in the place.
        fixed = {**named, index: (at,)}
        if at < len(names) and _meet(fixed[names[at]], fixed[name]):
            return True
    return False


def _can_choose(parts, named):
    return any([_meet(named[name], values) for name, values in parts[0]])


def _can_follow(parts, named):
    # Where the rule is satisfied, it does not matter whether the literal is, so that a shared name does no harm.
    (name, values), rule = parts
    return len(_without(named[name], values)) > 0 or _can_hold(rule, named)


POSSIBLE = {
    "in": _can_be_in,
    "sum": _can_sum,
    "different": _can_differ,
    "equal": _can_be_equal,
    "table": _can_be_row,
    "count": _can_count,
    "element": _can_be_found,
    "or": _can_choose,
    "if": _can_follow,
}


def _can_hold(rule, named):
    can = POSSIBLE[rule[0]]
    return can(rule[1:], named)
