"""Learning of clauses from assumptions that cannot be."""

from rebut.clauses import forced
from rebut.logs import follows_at_once, with_more
from rebut.solving import completed, open_variable


def least_clause(formula, clause):
    """A clause of literals of one that follows at once which does so, too, but not without any of its literals."""
    left = clause
    for literal in clause:
        fewer = tuple([other for other in left if other != literal])
        if follows_at_once(formula, fewer):
            left = fewer
    return left


class Learner:
    """Assumptions about a formula, and the clauses that were learned from them."""

    def __init__(self, formula):
        self.given = formula
        self.found = []
        self.assumed = []

    def assume(self, literal):
        """Adds an assumption if it is open, learns a clause if it cannot be, and returns a word for what it was."""
        if self.finished():
            return "finished"
        known = self.knows()
        if literal in known:
            return "known"
        if -literal in known:
            return "contrary"
        self.assumed.append(literal)
        if self.knows() is not None:
            return "open"
        wrong = tuple(sorted([-other for other in self.assumed]))
        self.found.append(least_clause(with_more(self.given, self.found), wrong))
        while self.assumed and self.knows() is None:
            self.assumed.pop()
        return "conflict"

    def assumptions(self):
        """The list of the assumptions."""
        return list(self.assumed)

    def learned(self):
        """The list of the learned clauses."""
        return list(self.found)

    def known_with(self, literals):
        """The cube that some literals force, together with all clauses, or None."""
        return forced(with_more(self.given, self.found), tuple(sorted(literals)))

    def knows(self):
        """The cube that the assumptions force, or None."""
        return self.known_with(self.assumed)

    def finished(self):
        """Whether nothing needs to be assumed for what cannot be."""
        return self.known_with([]) is None


def learn(formula):
    """A tuple of the word model and an assignment, or of the word log and a log."""
    learner = Learner(formula)
    while not learner.finished():
        cube = learner.knows()
        v = open_variable(formula, cube)
        if v is None:
            return ("model", completed(formula[0], cube))
        learner.assume(v)
    return ("log", (*learner.learned(), ()))
