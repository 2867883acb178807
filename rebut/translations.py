"""Refutations of one system from those of another one."""

from rebut.clauses import renamed, renamed_clause
from rebut.polynomials import cube_polynomial, plus
from rebut.resolution import clauses_of, strict_steps
from rebut.rows import Row


def without_common(clause, first, second):
    """The literals of a clause that two others do not both have."""
    return [literal for literal in clause if literal not in first or literal not in second]


def cuts_of_steps(formula, steps):
    """A row of cuts that excludes everything, from a refutation."""
    strict = strict_steps(formula, steps)
    clauses = clauses_of(formula, strict)
    row = Row()
    # For each step, the place of the cut with the inequality of its clause.
    places = []
    for step, clause in zip(strict, clauses):
        if step[0] == "axiom":
            places.append(row.added(step))
        else:
            first, second = step[1], step[2]
            single = without_common(clause, clauses[first], clauses[second])
            bounds = [row.added(("low", x) if x > 0 else ("high", -x)) for x in single]
            total = row.summed([places[first], places[second], *bounds])
            places.append(row.added(("divide", total, 2)))
    return tuple(row.parts)


class LineRow(Row):
    """A row of lines."""

    def multiplied(self, at, literals):
        """Adds lines that multiply one by the polynomials of some literals, as they stand in clauses."""
        for literal in literals:
            product = self.added(("times", at, abs(literal)))
            # For a variable x the factor is 1 + x, for a negated one it is x.
            at = self.added(("add", at, product)) if literal > 0 else product
        return at


def lines_of_steps(formula, steps):
    """A calculation that refutes a formula within one more than the width of a refutation."""
    strict = strict_steps(formula, steps)
    clauses = clauses_of(formula, strict)
    row = LineRow()
    # For each step, the place of the line with the polynomial of its clause.
    places = []
    for step, clause in zip(strict, clauses):
        if step[0] == "axiom":
            places.append(row.added(step))
        else:
            parts = [row.multiplied(places[at], [x for x in clause if x not in clauses[at]]) for at in step[1:3]]
            places.append(row.summed(parts))
    return tuple(row.parts)


def leaves_of(tree, cube):
    """The list of the pairs of the index and the cube of each leaf of a tree behind a cube."""
    if tree[0] == "leaf":
        return [(tree[1], cube)]
    return leaves_of(tree[2], (*cube, -tree[1])) + leaves_of(tree[3], (*cube, tree[1]))


def factors_of_tree(formula, tree):
    """The static refutation that follows from a right tree."""
    factors = [() for _ in formula[1]]
    for index, cube in leaves_of(tree, ()):
        others = [literal for literal in cube if -literal not in formula[1][index]]
        factors[index] = plus(factors[index], cube_polynomial(others))
    return tuple(factors)


def lines_of_factors(formula, factors):
    """A calculation that refutes a formula within the degree of a static refutation."""
    row = LineRow()
    places = []
    for index, clause in enumerate(formula[1]):
        for monomial in factors[index]:
            # The product is 0 if a variable of the clause is in it, and a negated one changes nothing.
            if not any([v in clause for v in monomial]):
                at = row.added(("axiom", index))
                places.append(row.multiplied(at, [-v for v in monomial if -v not in clause]))
    row.summed(places)
    return tuple(row.parts)


def shallow_tables(formula, k, family):
    """The table for `depth` that is above k, from a family for k."""
    return tuple([(cube, k + 1 - len(cube)) for cube in family if len(cube) <= k])


def renamed_places(formula, names):
    """The list of the indexes that the clauses of a formula have in the renamed one."""
    places = {clause: at for at, clause in enumerate(renamed(formula, names)[1])}
    return [places[renamed_clause(clause, names)] for clause in formula[1]]


def renamed_step(step, places, names):
    """The step of the renamed formula, where the clauses have other places."""
    if step[0] == "axiom":
        return ("axiom", places[step[1]])
    if step[0] == "weaken":
        return ("weaken", step[1], renamed_clause(step[2], names))
    name = names[step[3] - 1]
    if name > 0:
        return ("resolve", step[1], step[2], name)
    return ("resolve", step[2], step[1], -name)


def renamed_steps(formula, names, steps):
    """The refutation of the renamed formula in which each step speaks of the renamed clauses."""
    places = renamed_places(formula, names)
    return tuple([renamed_step(step, places, names) for step in steps])


def tree_with_names(tree, places, names):
    """The tree of the renamed formula, where the clauses have other places."""
    if tree[0] == "leaf":
        return ("leaf", places[tree[1]])
    low = tree_with_names(tree[2], places, names)
    high = tree_with_names(tree[3], places, names)
    name = names[tree[1] - 1]
    if name > 0:
        return ("ask", name, low, high)
    return ("ask", -name, high, low)


def renamed_tree(formula, names, tree):
    """The right tree for the renamed formula that asks the same questions under their new names."""
    return tree_with_names(tree, renamed_places(formula, names), names)
