"""Answers by going through all assignments of a space, and a judge of refutations that relies on nothing else.

Sets of assignments are numbers here: bit k stands for the assignment k, ascending.
"""

from itertools import chain, combinations, product

from clashproved.rules import satisfies
from tests.helpers import every_assignment, sorted_by


def subsets(values):
    """All ascending tuples of some of the values: none, some and all."""
    return list(chain.from_iterable(combinations(values, many) for many in range(len(values) + 1)))


def every_domains(space):
    """All domains of a space."""
    return list(product(*[subsets(values) for _, values in space.variables]))


def every_clause(space):
    """All clauses of a space."""
    found = []
    for domains in every_domains(space):
        found.append(tuple((name, values) for name, values in zip(space.names, domains) if values))
    return found


def resolved(space, first, second, name):
    """The resolvent, as point 7 tells it."""
    literals = []
    for other, _ in space.variables:
        one, two = set(dict(first).get(other, ())), set(dict(second).get(other, ()))
        values = one & two if other == name else one | two
        if values:
            literals.append((other, tuple(sorted(values))))
    return tuple(literals)


class Brute:
    """A space, of which all assignments are looked at."""

    def __init__(self, space):
        self.space = space
        self.rows = every_assignment(space)
        self.all = (1 << len(self.rows)) - 1
        self.known = {}
        self.having = {}
        for place, (name, values) in enumerate(space.variables):
            for value in values:
                self.having[name, value] = self.bits(row[place] == value for row in self.rows)

    def bits(self, answers):
        """The set of the assignments for which the answer is yes, from a row of answers."""
        return sum(1 << at for at, answer in enumerate(answers) if answer)

    def of_rule(self, rule):
        if rule not in self.known:
            self.known[rule] = self.bits(satisfies(self.space, rule, row) for row in self.rows)
        return self.known[rule]

    def of_all(self, rules):
        """The solutions of rules."""
        found = self.all
        for rule in rules:
            found &= self.of_rule(rule)
        return found

    def solutions(self, rules, order=()):
        """The list of all solutions, by an order."""
        bits = self.of_all(rules)
        number_of = {row: number for number, row in enumerate(self.rows)}
        return [row for row in sorted_by(self.space, order) if bits >> number_of[row] & 1]

    def core(self, rules, fixed=()):
        """The indices that point 18 tells, found by leaving out one rule after the other; None with a solution."""
        kept = list(range(len(rules)))
        if self.of_all(rules + fixed):
            return None
        for index in range(len(rules)):
            others = [at for at in kept if at != index]
            if not self.of_all(tuple(rules[at] for at in others) + fixed):
                kept = others
        return tuple(kept)

    def of_values(self, name, values):
        found = 0
        for value in values:
            found |= self.having[name, value]
        return found

    def of_clause(self, clause):
        found = 0
        for name, values in clause:
            found |= self.of_values(name, values)
        return found

    def within(self, domains, names):
        """The assignments whose values for these names are from the domains."""
        found = self.all
        for name, domain in zip(self.space.names, domains):
            if name in names:
                found &= self.of_values(name, domain)
        return found

    def first(self, bits, ordered):
        """The first of a list of assignments that is in a set, or None."""
        number_of = {row: number for number, row in enumerate(self.rows)}
        for row in ordered:
            if bits >> number_of[row] & 1:
                return row
        return None

    def is_clause(self, value):
        if type(value) is not tuple:
            return False
        places = []
        for literal in value:
            if type(literal) is not tuple or len(literal) != 2:
                return False
            name, values = literal
            if name not in self.space.names or not self.are_values(name, values):
                return False
            places.append(self.space.names.index(name))
        return places == sorted(set(places))

    def are_values(self, name, values):
        if type(values) is not tuple or len(values) == 0 or list(values) != sorted(set(values)):
            return False
        return all(type(value) is int and (name, value) in self.having for value in values)

    def fault_of(self, rules, steps):
        """What is wrong with a refutation of rules (point 11), or None."""
        if type(steps) is not tuple or len(steps) == 0:
            return "no steps"
        of_rules = [self.of_rule(rule) for rule in rules]
        for number, step in enumerate(steps):
            fault = self.fault_of_step(of_rules, steps[:number], step)
            if fault is not None:
                return f"step {number}: {fault}"
        return None if steps[-1][-1] == () else "the last clause is not empty"

    def fault_of_step(self, of_rules, earlier, step):
        if type(step) is not tuple or not self.is_clause(step[-1]):
            return "no clause"
        if step[0] == "rule" and len(step) == 3:
            if type(step[1]) is not int or not 0 <= step[1] < len(of_rules):
                return "no such rule"
            implied = of_rules[step[1]] & ~self.of_clause(step[2]) == 0
            return None if implied else "the rule does not imply the clause"
        if step[0] == "resolve" and len(step) == 4:
            return self.fault_of_resolving(earlier, step)
        return "no step"

    def fault_of_resolving(self, earlier, step):
        _, first, pairs, clause = step
        if type(pairs) is not tuple or any(type(pair) is not tuple or len(pair) != 2 for pair in pairs):
            return "no pairs"
        numbers = [first] + [number for _, number in pairs]
        if any(type(number) is not int or not 0 <= number < len(earlier) for number in numbers):
            return "no earlier step"
        if any(name not in self.space.names for name, _ in pairs):
            return "no name"
        found = earlier[first][-1]
        for name, number in pairs:
            found = resolved(self.space, found, earlier[number][-1], name)
        return None if found == clause else "another clause"
