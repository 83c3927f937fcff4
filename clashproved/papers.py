"""Papers that show something about rules: judges, which need not search, and makers."""

from clashproved.clauses import is_clause, resolvent
from clashproved.narrowing import is_implied
from clashproved.rules import check_rules, satisfies_all, worth_of
from clashproved.search import decide, solve
from clashproved.shapes import is_number, is_tuple, kind_of
from clashproved.spaces import check_order, whole_order


def judge(space, rules, paper):
    """Tell whether a paper shows that rules have a solution, or that they have none."""
    if _is_paper(paper, "solution", 2):
        return _is_solution(space, rules, paper[1])
    return _is_paper(paper, "refuted", 2) and _is_refutation(space, rules, paper[1])


def judge_first(space, rules, order, paper):
    """Tell whether a paper shows which solution of rules is the first one by an order."""
    check_order(space, order)
    if not _is_paper(paper, "first", 3) or not _is_solution(space, rules, paper[1]):
        return False
    _, assignment, refutations = paper
    refuted = _rules_for_ahead(space, rules, order, assignment)
    if not is_tuple(refutations, len(refuted), len(refuted)):
        return False
    return all([_is_refutation(space, row, steps) for row, steps in zip(refuted, refutations)])


def judge_best(space, rules, terms, direction, paper):
    """Tell whether a paper shows that no solution of rules has a better worth than the one that it tells."""
    if not _is_paper(paper, "best", 3) or not _is_solution(space, rules, paper[1]):
        return False
    _, assignment, steps = paper
    return _is_refutation(space, _rules_for_better(space, rules, terms, direction, assignment), steps)


def paper_of(space, rules):
    """A paper that judge takes."""
    return solve(space, rules)


def explain_first(space, rules, order):
    """A paper that judge_first takes, or a refutation of the rules, if there is no solution."""
    answer = solve(space, rules, order)
    kind, assignment = answer
    if kind == "refuted":
        return answer
    refuted = _rules_for_ahead(space, rules, order, assignment)
    return ("first", assignment, tuple([_refutation_of(space, row) for row in refuted]))


def explain_best(space, rules, terms, direction):
    """A paper that judge_best takes, or a refutation of the rules, if there is no solution."""
    check_rules(space, rules)
    # Good worths ahead leave few solutions that are better than the first one.
    order = tuple([(name, _good_way(factor, direction)) for factor, name in terms])
    answer = decide(space, rules, order)
    kind, best = answer
    if kind == "refuted":
        return answer
    while True:
        kind, told = decide(space, _rules_for_better(space, rules, terms, direction, best), order)
        if kind == "refuted":
            return ("best", best, told)
        best = told


def _good_way(factor, direction):
    if (factor > 0) == (direction == "least"):
        return "up"
    return "down"


def _refutation_of(space, rules):
    _, steps = decide(space, rules, ())
    return steps


def _rules_for_ahead(space, rules, order, assignment):
    """The rules that are refuted if an assignment is the first one: some for each variable with values ahead."""
    found = []
    fixed = ()
    for name, direction in whole_order(space, order):
        value = assignment[space.place_of(name)]
        ahead = _values_ahead(space.values_of(name), direction, value)
        if len(ahead) > 0:
            found.append((*rules, *fixed, ("in", name, ahead)))
        fixed = (*fixed, ("in", name, (value,)))
    return found


def _values_ahead(values, direction, value):
    if direction == "up":
        return tuple([other for other in values if other < value])
    return tuple([other for other in values if other > value])


def _rules_for_better(space, rules, terms, direction, assignment):
    """The rules that are refuted if no assignment that satisfies the rules has a better worth than this one."""
    worth = worth_of(space, terms, assignment)
    if direction == "least":
        return (*rules, ("sum", terms, "<=", worth - 1))
    return (*rules, ("sum", terms, ">=", worth + 1))


# The functions below get whatever stands in a paper: each part is looked at only where its kind is known.


def _is_paper(value, kind, length):
    """Tell whether a value is a tuple of a length with a kind ahead, whatever it is."""
    return is_tuple(value, length, length) and kind_of(value) == kind


def _is_solution(space, rules, value):
    return space.is_assignment(value) and satisfies_all(space, rules, value)


def _is_refutation(space, rules, value):
    if type(value) != tuple or len(value) == 0:
        return False
    clauses = []
    for step in value:
        if not _holds(space, rules, clauses, step):
            return False
        clauses.append(step[-1])
    return clauses[-1] == ()


def _holds(space, rules, clauses, step):
    """Tell whether a value is a step that holds behind steps with these clauses."""
    if _is_paper(step, "rule", 3):
        _, index, clause = step
        return _is_index(index, rules) and is_clause(space, clause) and is_implied(space, rules[index], clause)
    if _is_paper(step, "resolve", 4):
        _, first, pairs, clause = step
        return is_clause(space, clause) and _is_resolved(space, clauses, first, pairs, clause)
    return False


def _is_resolved(space, clauses, first, pairs, clause):
    if not _is_index(first, clauses) or type(pairs) != tuple:
        return False
    found = clauses[first]
    for pair in pairs:
        if not is_tuple(pair, 2, 2) or not space.has_name(pair[0]) or not _is_index(pair[1], clauses):
            return False
        name, number = pair
        found = resolvent(space, found, clauses[number], name)
    return found == clause


def _is_index(value, row):
    return is_number(value, 0, len(row) - 1)
