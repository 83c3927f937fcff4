"""What is taken by points 14 to 16, found by going through all assignments, whatever the papers are."""

from tests.brute import Brute


def unless_it_fails(answer):
    """The answer of a function, or False if it raises an error: so it has met something that stands in no paper."""
    try:
        return answer()
    except Exception:
        return False


def parts_of(value, many):
    """The parts of a tuple with so many parts; an error for everything else."""
    if type(value) is not tuple or len(value) != many:
        raise ValueError
    return value


class Judge(Brute):
    """Tells which papers are to be taken, and relies on nothing of the program but what satisfies a rule."""

    def takes(self, rules, paper):
        return unless_it_fails(lambda: self._takes(rules, paper))

    def takes_first(self, rules, order, paper):
        return unless_it_fails(lambda: self._takes_first(rules, order, paper))

    def takes_best(self, rules, terms, direction, paper):
        return unless_it_fails(lambda: self._takes_best(rules, terms, direction, paper))

    def is_solution(self, rules, value):
        values = parts_of(value, len(self.space.names))
        return all(type(each) is int for each in values) and value in self.solutions(rules)

    def _takes(self, rules, paper):
        kind, told = parts_of(paper, 2)
        if kind == "solution":
            return self.is_solution(rules, told)
        return kind == "refuted" and self.fault_of(rules, told) is None

    def _takes_first(self, rules, order, paper):
        kind, assignment, refutations = parts_of(paper, 3)
        if kind != "first" or not self.is_solution(rules, assignment):
            return False
        named = dict(zip(self.space.names, assignment))
        directions = dict(order)
        to_refute, ahead = [], ()
        for name in list(directions) + [name for name in self.space.names if name not in directions]:
            values = dict(self.space.variables)[name]
            at = values.index(named[name])
            better = values[at + 1:] if directions.get(name) == "down" else values[:at]
            if better:
                to_refute.append(rules + ahead + (("in", name, better),))
            ahead += (("in", name, (named[name],)),)
        told = parts_of(refutations, len(to_refute))
        return all(self.fault_of(row, steps) is None for row, steps in zip(to_refute, told))

    def _takes_best(self, rules, terms, direction, paper):
        kind, assignment, steps = parts_of(paper, 3)
        if kind != "best" or not self.is_solution(rules, assignment):
            return False
        worth = self.worth(terms, assignment)
        better = ("sum", terms, "<=", worth - 1) if direction == "least" else ("sum", terms, ">=", worth + 1)
        return self.fault_of(rules + (better,), steps) is None

    def worth(self, terms, assignment):
        named = dict(zip(self.space.names, assignment))
        return sum(factor * named[name] for factor, name in terms)
