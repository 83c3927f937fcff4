"""Rules over the variables of a space: which values are rules, and what satisfies them."""

from clashproved.errors import BadRule
from clashproved.shapes import GREATEST_VALUE, are_values, is_number, is_tuple, kind_of, none_twice

MOST_NAMES = 6
MOST_ROWS = 20
GREATEST_FACTOR = 9
GREATEST_SUM = 1100
RELATIONS = ("=", "<=", ">=", "!=")


def is_literal(space, value):
    """Tell whether a value is a pair of a name of the space and some values."""
    return is_tuple(value, 2, 2) and space.has_name(value[0]) and are_values(value[1])


def are_terms(space, value):
    """Tell whether a value is the terms of a sum."""
    if not is_tuple(value, 1, MOST_NAMES):
        return False
    if not all([_is_term(space, part) for part in value]):
        return False
    return none_twice([name for _, name in value])


def _is_term(space, value):
    if not is_tuple(value, 2, 2):
        return False
    factor, name = value
    return is_number(factor, -GREATEST_FACTOR, GREATEST_FACTOR) and factor != 0 and space.has_name(name)


def _are_names(space, value, least):
    return is_tuple(value, least, MOST_NAMES) and all([space.has_name(part) for part in value])


def _are_different_names(space, value, least):
    return _are_names(space, value, least) and none_twice(value)


def _is_relation(value):
    return type(value) == str and value in RELATIONS


def _is_row(value, length):
    return is_tuple(value, length, length) and all([is_number(part, 0, GREATEST_VALUE) for part in value])


# The functions below get the parts of a rule behind its kind, as a tuple of whatever there is.


def _is_sum(space, parts):
    if len(parts) != 3:
        return False
    terms, relation, number = parts
    return are_terms(space, terms) and _is_relation(relation) and is_number(number, -GREATEST_SUM, GREATEST_SUM)


def _is_comparison(space, parts):
    return len(parts) == 1 and _are_different_names(space, parts[0], 2)


def _is_table(space, parts):
    if len(parts) != 2:
        return False
    names, rows = parts
    if not _are_different_names(space, names, 1) or not is_tuple(rows, 1, MOST_ROWS):
        return False
    return all([_is_row(row, len(names)) for row in rows])


def _is_count(space, parts):
    if len(parts) != 3:
        return False
    names, values, numbers = parts
    return _are_different_names(space, names, 1) and are_values(values) and are_values(numbers)


def _is_element(space, parts):
    if len(parts) != 3:
        return False
    index, names, name = parts
    return space.has_name(index) and _are_names(space, names, 1) and space.has_name(name)


def _is_or(space, parts):
    if len(parts) != 1 or not is_tuple(parts[0], 0, MOST_NAMES):
        return False
    literals = parts[0]
    if not all([is_literal(space, literal) for literal in literals]):
        return False
    return none_twice([name for name, _ in literals])


FORMS = {
    "in": is_literal,
    "sum": _is_sum,
    "different": _is_comparison,
    "equal": _is_comparison,
    "table": _is_table,
    "count": _is_count,
    "element": _is_element,
    "or": _is_or,
}


def check_rule(space, rule):
    """Raise BadRule if a value is no rule of the space."""
    if not _is_simple_rule(space, rule) and not _is_conditional(space, rule):
        raise BadRule("this is no rule of the space")


def check_rules(space, rules):
    """Raise BadRule if one of some values is no rule of the space."""
    for rule in rules:
        check_rule(space, rule)


def _is_simple_rule(space, value):
    kind = kind_of(value)
    if kind not in FORMS:
        return False
    has_form = FORMS[kind]
    return has_form(space, value[1:])


def _is_conditional(space, value):
    if kind_of(value) != "if" or len(value) != 3:
        return False
    return is_literal(space, value[1]) and _is_simple_rule(space, value[2])


def names_of(space, rule):
    """The names of the variables of a rule, in the order of the space."""
    standing = _standing_names(rule)
    return tuple([name for name in space.names if name in standing])


def _standing_names(rule):
    kind = rule[0]
    if kind == "if":
        return [rule[1][0]] + _standing_names(rule[2])
    if kind == "in":
        return [rule[1]]
    if kind == "sum":
        return [name for _, name in rule[1]]
    if kind == "or":
        return [name for name, _ in rule[1]]
    if kind == "element":
        return [rule[1], *rule[2], rule[3]]
    return list(rule[1])


def worth_of(space, terms, assignment):
    """The sum of factor times value over all terms."""
    return sum([factor * _value(space, name, assignment) for factor, name in terms])


def _value(space, name, assignment):
    return assignment[space.place_of(name)]


def _values(space, names, assignment):
    return [_value(space, name, assignment) for name in names]


def satisfies_literal(space, literal, assignment):
    """Tell whether the variable of a literal has one of its values."""
    name, values = literal
    return _value(space, name, assignment) in values


def _satisfies_sum(space, parts, assignment):
    terms, relation, number = parts
    worth = worth_of(space, terms, assignment)
    if relation == "=":
        return worth == number
    if relation == "<=":
        return worth <= number
    if relation == ">=":
        return worth >= number
    return worth != number


def _satisfies_different(space, parts, assignment):
    values = _values(space, parts[0], assignment)
    return len(set(values)) == len(values)


def _satisfies_equal(space, parts, assignment):
    values = _values(space, parts[0], assignment)
    return len(set(values)) == 1


def _satisfies_table(space, parts, assignment):
    names, rows = parts
    return tuple(_values(space, names, assignment)) in rows


def _satisfies_count(space, parts, assignment):
    names, values, numbers = parts
    return len([value for value in _values(space, names, assignment) if value in values]) in numbers


def _satisfies_element(space, parts, assignment):
    index, names, name = parts
    at = _value(space, index, assignment)
    return at < len(names) and _value(space, names[at], assignment) == _value(space, name, assignment)


def _satisfies_or(space, parts, assignment):
    return any([satisfies_literal(space, literal, assignment) for literal in parts[0]])


MEANINGS = {
    "in": satisfies_literal,
    "sum": _satisfies_sum,
    "different": _satisfies_different,
    "equal": _satisfies_equal,
    "table": _satisfies_table,
    "count": _satisfies_count,
    "element": _satisfies_element,
    "or": _satisfies_or,
}


def satisfies(space, rule, assignment):
    """Tell whether an assignment satisfies a rule."""
    if rule[0] == "if":
        return not satisfies_literal(space, rule[1], assignment) or satisfies(space, rule[2], assignment)
    meaning = MEANINGS[rule[0]]
    return meaning(space, rule[1:], assignment)


def satisfies_all(space, rules, assignment):
    """Tell whether an assignment satisfies all of the rules."""
    for rule in rules:
        if not satisfies(space, rule, assignment):
            return False
    return True
