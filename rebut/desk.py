"""A desk: a formula that grows and shrinks, and what shows that it has no model."""

from rebut.clauses import joined, made_formula
from rebut.errors import BadFormula, HasModel
from rebut.sides import side_formula
from rebut.solving import solve


def needed_indexes(formula, indexes):
    """The list of those of some indexes whose clauses a refutation of all of them uses, or None if there is none."""
    word, steps = solve(side_formula(formula, indexes, 1))
    if word == "model":
        return None
    return [indexes[at] for at in sorted({step[1] for step in steps if step[0] == "axiom"})]


def with_clauses(formula, steps):
    """The tuple of the steps in which the clauses stand in place of their indexes."""
    return tuple([("axiom", formula[1][step[1]]) if step[0] == "axiom" else step for step in steps])


def with_indexes(formula, named):
    """The steps with the indexes of their clauses, or None if a clause is not there."""
    places = {clause: at for at, clause in enumerate(formula[1])}
    if any([step[0] == "axiom" and step[1] not in places for step in named]):
        return None
    return tuple([("axiom", places[step[1]]) if step[0] == "axiom" else step for step in named])


class Desk:
    """A formula to which clauses are added, and from which they are removed."""

    def __init__(self, n):
        self.held = made_formula(n, [])
        # The last refutation that was returned, with its clauses in place of their indexes.
        self.last = None

    def add(self, literals):
        """Adds the clause of a list of literals and returns whether the formula has changed."""
        grown = joined(self.held, made_formula(self.held[0], [literals]))
        changed = grown != self.held
        self.held = grown
        return changed

    def remove(self, index):
        """Removes the clause with an index."""
        n, clauses = self.held
        if not 0 <= index < len(clauses):
            raise BadFormula("there is no clause with this index")
        self.held = (n, clauses[:index] + clauses[index + 1:])

    def formula(self):
        """The formula as it is now."""
        return self.held

    def model(self):
        """An assignment that satisfies all clauses, or None if there is none."""
        word, cube = solve(self.held)
        return cube if word == "model" else None

    def core(self):
        """The ascending list of indexes of clauses without a model, each of which is needed; raises HasModel."""
        kept = needed_indexes(self.held, list(range(len(self.held[1]))))
        if kept is None:
            raise HasModel("the formula has a model")
        for index in list(kept):
            fewer = needed_indexes(self.held, [other for other in kept if other != index])
            if fewer is not None:
                kept = fewer
        return kept

    def steps(self):
        """A refutation, the one that was returned last if it is still one; raises HasModel."""
        again = None if self.last is None else with_indexes(self.held, self.last)
        if again is not None:
            return again
        word, steps = solve(self.held)
        if word == "model":
            raise HasModel("the formula has a model")
        self.last = with_clauses(self.held, steps)
        return steps
