"""Desks, on which rules come and go in levels and are assumed for a single ask."""

from clashproved.cores import first_best, least_core, possible_values
from clashproved.errors import BadRule, BadTerms, NoSuchRule, NothingPushed, TooMany
from clashproved.rules import are_terms, check_rule, is_literal
from clashproved.search import solve
from clashproved.spaces import check_order


class Desk:
    """Active rules with numbers, levels, and changes that can be undone."""

    MOST_RULES = 30
    MOST_CHANGES = 100

    def __init__(self, space):
        self.space = space
        self.rules = ()
        self.ids = ()
        # The rules of when each level began, and the rules and levels ahead of each change that can be undone.
        self.levels = ()
        self.changes = ()
        self.next_number = 0

    def __len__(self):
        return len(self.rules)

    def __iter__(self):
        return iter(self.ids)

    @property
    def change_count(self):
        """How many changes can be undone."""
        return len(self.changes)

    def add(self, rule):
        """Add a rule behind the others, and return its number."""
        check_rule(self.space, rule)
        if len(self.rules) >= Desk.MOST_RULES:
            raise TooMany("there are as many active rules as a desk takes")
        number = self.next_number
        self._change(self.rules + ((number, rule),), self.levels)
        self.next_number = number + 1
        return number

    def remove(self, number):
        """Remove the rule with a number."""
        # True and False are no numbers, though they are equal to some.
        if type(number) != int or number not in self.ids:
            raise NoSuchRule(number)
        self._change(tuple([row for row in self.rules if row[0] != number]), self.levels)

    def push(self):
        """Begin a level, and return the number of levels then."""
        self._change(self.rules, self.levels + (self.rules,))
        return len(self.levels)

    def pop(self):
        """End the last level, with the rules of when it began, and return the number of levels then."""
        if len(self.levels) == 0:
            raise NothingPushed("there is no level that could end")
        self._change(self.levels[-1], self.levels[:-1])
        return len(self.levels)

    def undo(self):
        """Restore rules and levels as they were ahead of the last change and return True, or False without one."""
        if len(self.changes) == 0:
            return False
        rules, levels = self.changes[-1]
        self.changes = self.changes[:-1]
        self._put(rules, levels)
        return True

    def _change(self, rules, levels):
        if len(self.changes) >= Desk.MOST_CHANGES:
            raise TooMany("there are as many changes that can be undone as a desk takes")
        self.changes = self.changes + ((self.rules, self.levels),)
        self._put(rules, levels)

    def _put(self, rules, levels):
        self.rules = rules
        self.ids = tuple([number for number, _ in rules])
        self.levels = levels

    def ask(self, assumptions=(), order=()):
        """The first solution by the order, or the least core of the active rules and assumptions, with a refutation."""
        if not all([is_literal(self.space, part) for part in assumptions]):
            raise BadRule("an assumption is a literal (name, values)")
        rules = self._active_rules() + tuple([("in", name, values) for name, values in assumptions])
        answer = solve(self.space, rules, order)
        if answer[0] == "solution":
            return answer
        core = least_core(self.space, rules)
        _, steps = solve(self.space, tuple([rules[index] for index in core]))
        many = len(self.rules)
        numbers = tuple([self.ids[index] for index in core if index < many])
        positions = tuple([index - many for index in core if index >= many])
        return ("refuted", numbers, positions, steps)

    def core(self):
        """The numbers of the least core of the active rules, or None if they have a solution."""
        core = least_core(self.space, self._active_rules())
        if core is None:
            return None
        return tuple([self.ids[index] for index in core])

    def possible(self):
        """The possible values of each variable."""
        return possible_values(self.space, self._active_rules())

    def best(self, terms, direction, order=()):
        """The first one by the order of the solutions with the best worth, with this worth, or None."""
        if not are_terms(self.space, terms):
            raise BadTerms("terms are a tuple of pairs (factor, name), no name twice")
        check_order(self.space, order)
        return first_best(self.space, self._active_rules(), terms, direction, order)

    def _active_rules(self):
        return tuple([rule for _, rule in self.rules])

    def tried(self):
        """A trial: at its end, everything of the desk is as it is now."""
        return Trial(self)

    def foresee(self, rules):
        """What ask would tell, or the error that would be raised, with these rules added."""
        with self.tried() as desk:
            for rule in rules:
                desk.add(rule)
            return desk.ask()


class Trial:
    """What a desk is like when the trial is made, to be restored when a "with" statement ends."""

    def __init__(self, desk):
        self.desk = desk
        self.rules = desk.rules
        self.ids = desk.ids
        self.levels = desk.levels
        self.changes = desk.changes
        self.next_number = desk.next_number

    def __enter__(self):
        return self.desk

    def __exit__(self, kind, value, trace):
        desk = self.desk
        desk.rules = self.rules
        desk.ids = self.ids
        desk.levels = self.levels
        desk.changes = self.changes
        desk.next_number = self.next_number
