"""The first solution of rules by an order, or a refutation of them."""

from clashproved.clauses import resolvent, values_in
from clashproved.narrowing import explanation, filtered, with_domain
from clashproved.rules import check_rules, names_of
from clashproved.spaces import check_order, ordered_values, whole_order


def solve(space, rules, order=()):
    """("solution", assignment) with the first solution by the order, or ("refuted", steps) with a refutation."""
    check_rules(space, rules)
    check_order(space, order)
    return decide(space, rules, order)


def decide(space, rules, order):
    """What solve tells, of rules and an order that are known to be such."""
    search = Search(space, rules, whole_order(space, order))
    clash = search.explore(tuple([values for _, values in space.variables]), list(range(len(rules))))
    if clash is None:
        return ("solution", search.solution)
    # A clash with all values has the clause (), and the steps up to it are all that it rests on.
    return ("refuted", tuple(search.steps[:clash + 1]))


class Search:
    """A search for the first solution, with the steps that it finds where there is none.

    It goes through the values by the order. Where domains leave no solution, it ends in a clash with them: the number
    of a step whose clause has none of the values in the domains, so that no assignment out of them satisfies it.
    """

    def __init__(self, space, rules, order):
        self.space = space
        self.rules = rules
        self.order = order
        self.names = [names_of(space, rule) for rule in rules]
        self.solution = None
        self.steps = []
        self.numbers = {}

    def explore(self, domains, waiting):
        """Keep the first solution out of the domains and return None, or return a clash with them.

        Rules whose indices are not waiting are known to leave the domains as they are.
        """
        domains, cuts, failed = self._narrow(domains, waiting)
        if failed is not None:
            proof = self._proof_from(self._explain(failed, domains))
        else:
            proof = self._try_values(domains)
            if proof is None:
                return None
        self._resolve_cuts(proof, cuts)
        return self._clash_of(proof)

    def _narrow(self, domains, waiting):
        """The domains that the rules leave, the cuts made, and the index of a rule that leaves nothing, or None.

        A cut is a value that a rule takes away: its name, the value, the rule's index, and the domains ahead of it.
        """
        cuts = []
        while len(waiting) > 0:
            index = waiting[0]
            waiting = waiting[1:]
            left = filtered(self.space, self.rules[index], domains)
            if () in left:
                return domains, cuts, index
            for name, before, behind in zip(self.space.names, domains, left):
                if before != behind:
                    cuts = cuts + [(name, value, index, domains) for value in before if value not in behind]
                    woken = [at for at in self._rules_with(name) if at != index and at not in waiting]
                    waiting = waiting + woken
            domains = left
        return domains, cuts, None

    def _rules_with(self, name):
        return [index for index, names in enumerate(self.names) if name in names]

    def _try_values(self, domains):
        """Keep the first solution out of narrowed domains and return None, or return a proof that clashes with them."""
        choices = [choice for choice in self.order if len(domains[self.space.place_of(choice[0])]) > 1]
        if len(choices) == 0:
            self.solution = tuple([domain[0] for domain in domains])
            return None
        name, direction = choices[0]
        domain = domains[self.space.place_of(name)]
        proof = None
        for value in ordered_values(self.space, name, direction):
            # A value that the proof's clause does not have clashes with it already.
            if value in domain and (proof is None or value in values_in(proof.clause, name)):
                clash = self.explore(with_domain(self.space, domains, name, (value,)), self._rules_with(name))
                if clash is None:
                    return None
                proof = self._joined(proof, name, domain, clash)
        return proof

    def _joined(self, proof, name, domain, clash):
        clause = self._clause_at(clash)
        # A clause without a value of the domain clashes with all of them, so that the proof ahead is not needed.
        if proof is None or not any([value in domain for value in values_in(clause, name)]):
            return self._proof_from(clash)
        proof.resolve(self.space, name, clash, clause)
        return proof

    def _resolve_cuts(self, proof, cuts):
        """Go on with a proof that clashes with the domains behind the cuts until it clashes with those ahead."""
        for name, value, index, domains in reversed(cuts):
            if value in values_in(proof.clause, name):
                number = self._explain(index, with_domain(self.space, domains, name, (value,)))
                proof.resolve(self.space, name, number, self._clause_at(number))

    def _explain(self, index, domains):
        return self._number_of(("rule", index, explanation(self.space, self.rules[index], domains)))

    def _proof_from(self, number):
        return Proof(number, self._clause_at(number))

    def _clash_of(self, proof):
        if len(proof.pairs) == 0:
            return proof.first
        return self._number_of(("resolve", proof.first, tuple(proof.pairs), proof.clause))

    def _number_of(self, step):
        if step not in self.numbers:
            self.numbers[step] = len(self.steps)
            self.steps.append(step)
        return self.numbers[step]

    def _clause_at(self, number):
        return self.steps[number][-1]


class Proof:
    """The clause of a first step, resolved, one after the other, with those of other steps."""

    def __init__(self, first, clause):
        self.first = first
        self.pairs = []
        self.clause = clause

    def resolve(self, space, name, number, clause):
        """Resolve with the clause of the step with a number on a variable."""
        self.pairs.append((name, number))
        self.clause = resolvent(space, self.clause, clause, name)
