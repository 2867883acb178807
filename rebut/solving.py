"""The search for a model or a refutation of a formula."""

from rebut.clauses import is_model, negated, satisfies
from rebut.forms import has_form
from rebut.resolution import Derivation, is_refutation


def open_variable(formula, known):
    """An open variable of a shortest clause that no known literal satisfies, or None if there is no such clause."""
    best = None
    for clause in formula[1]:
        if not satisfies(known, clause):
            left = [literal for literal in clause if -literal not in known]
            if best is None or len(left) < len(best):
                best = left
    return None if best is None else abs(best[0])


def completed(n, known):
    """The assignment with some known literals in which all other variables are false."""
    return tuple(sorted([v if v in known else -v for v in range(1, n + 1)]))


class Search(Derivation):
    """A search through partial assignments that keeps the steps by which it refutes them."""

    def __init__(self, formula):
        Derivation.__init__(self)
        self.given = formula
        for at, clause in enumerate(formula[1]):
            self.stepped(("axiom", at), clause)
        # The indexes of the steps whose clauses are used to find what is forced.
        self.known = {at: True for at in range(len(formula[1]))}
        self.found = None

    def spread(self, assumed):
        """The trail of what some literals force, with the reasons, up to a false clause.

        The third one of what is returned is the index of the step with that clause, or None.
        """
        trail = {literal: True for literal in assumed}
        reasons = []
        grown = True
        while grown:
            grown = False
            for at in self.known:
                left = [literal for literal in self.clauses[at] if -literal not in trail]
                if not left:
                    return (trail, reasons, at)
                if len(left) == 1 and left[0] not in trail:
                    trail[left[0]] = True
                    reasons.append((left[0], at))
                    grown = True
        return (trail, reasons, None)

    def cleared(self, at, reasons):
        """The index of a step whose clause is that of a false one without what was forced."""
        for literal, reason in reversed(reasons):
            if -literal in self.clauses[at]:
                at = self.taken_away(at, reason, literal)
        return at

    def derived(self, clause):
        """The index of a step, whose clause is known then, for a clause that follows at once, or for a part of it."""
        _, reasons, at = self.spread(negated(clause))
        at = self.cleared(at, reasons)
        self.known[at] = True
        return at

    def explored(self, assumed):
        """The index of a step whose clause some assumed literals falsify, or None where a model is found."""
        trail, reasons, at = self.spread(assumed)
        if at is None:
            v = open_variable(self.given, trail)
            if v is None:
                self.found = completed(self.given[0], trail)
                return None
            at = self.branched(list(trail), v)
        if at is None:
            return None
        at = self.cleared(at, reasons)
        self.known[at] = True
        return at

    def branched(self, literals, v):
        """As `explored`, for literals and both values of an open variable v."""
        low = self.explored([*literals, -v])
        if low is None or v not in self.clauses[low]:
            return low
        high = self.explored([*literals, v])
        if high is None or -v not in self.clauses[high]:
            return high
        return self.resolved(low, high, v)


def solve(formula):
    """A tuple of the word model and an assignment, or of the word refutation and steps."""
    search = Search(formula)
    last = search.explored([])
    if last is None:
        return ("model", search.found)
    return ("refutation", search.steps_to(last))


def is_solved(formula, value):
    """Whether any value is a model or a refutation of a formula with its word in front."""
    if has_form(value, "model", 2):
        return is_model(formula, value[1])
    return has_form(value, "refutation", 2) and is_refutation(formula, value[1])
