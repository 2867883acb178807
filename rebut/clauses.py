"""Literals, clauses, cubes and formulas."""

from rebut.errors import BadFormula
from rebut.forms import is_integer, is_tuple, is_tuple_of

MOST_VARIABLES = 40


def ascends(row):
    """Whether the items of a list or tuple are strictly ascending."""
    return all([low < high for low, high in zip(row, row[1:])])


def is_literal(n, value):
    """Whether any value is a variable from 1 to n or its negation."""
    return is_integer(value) and 1 <= abs(value) <= n


def is_clause(n, value):
    """Whether any value is a clause, or a cube, of the variables from 1 to n."""
    if not is_tuple_of(value, lambda literal: is_literal(n, literal)):
        return False
    return ascends(value) and not any([-literal in value for literal in value])


def is_formula(value):
    """Whether any value is a formula."""
    if not is_tuple(value) or len(value) != 2:
        return False
    n, clauses = value
    if not is_integer(n) or not 0 <= n <= MOST_VARIABLES:
        return False
    return is_tuple_of(clauses, lambda clause: is_clause(n, clause)) and ascends(clauses)


def made_clause(literals):
    """The ascending tuple of the different literals of a list, or None if two are opposite."""
    clause = tuple(sorted(set(literals)))
    if any([-literal in clause for literal in clause]):
        return None
    return clause


def gathered(n, clauses):
    """The formula of n variables with the clauses of a list, in any order."""
    return (n, tuple(sorted(set(clauses))))


def made_formula(n, rows):
    """The formula with the clauses of a list of lists of literals."""
    if not 0 <= n <= MOST_VARIABLES:
        raise BadFormula("the number of variables is not from 0 to 40")
    for row in rows:
        for literal in row:
            if literal == 0 or abs(literal) > n:
                raise BadFormula("a number in a list is not a literal")
    clauses = [made_clause(row) for row in rows]
    return gathered(n, [clause for clause in clauses if clause is not None])


def falsifies(cube, clause):
    """Whether a cube contains the negation of each literal of a clause."""
    return all([-literal in cube for literal in clause])


def satisfies(cube, clause):
    """Whether a cube contains a literal of a clause."""
    return any([literal in cube for literal in clause])


def falsified(formula, cube):
    """The index of the first clause that a cube falsifies, or -1."""
    for index, clause in enumerate(formula[1]):
        if falsifies(cube, clause):
            return index
    return -1


def is_model(formula, cube):
    """Whether any value is an assignment that satisfies every clause."""
    n, clauses = formula
    if not is_clause(n, cube) or len(cube) != n:
        return False
    return all([satisfies(cube, clause) for clause in clauses])


def without_false(clause, cube):
    """The clause without the literals whose negations are in a cube."""
    return tuple([literal for literal in clause if -literal not in cube])


def restricted(formula, cube):
    """The formula that is left when the literals of a cube are true."""
    n, clauses = formula
    return gathered(n, [without_false(clause, cube) for clause in clauses if not satisfies(cube, clause)])


def renamed_clause(clause, names):
    """The clause in which each literal v is replaced by names[v - 1]."""
    return made_clause([names[v - 1] if v > 0 else -names[-v - 1] for v in clause])


def renamed(formula, names):
    """The formula in which each literal v is replaced by names[v - 1]."""
    n, clauses = formula
    return gathered(n, [renamed_clause(clause, names) for clause in clauses])


def joined(first, second):
    """The formula with the clauses of both formulas."""
    return gathered(max(first[0], second[0]), first[1] + second[1])


def width_of_formula(formula):
    """The greatest width of a clause, 0 if there is none."""
    return max([len(clause) for clause in formula[1]], default=0)


def variables_of(formula):
    """The ascending list of the variables that occur in clauses."""
    return sorted({abs(literal) for clause in formula[1] for literal in clause})


def forced(formula, cube):
    """The least cube with a cube and all that its clauses force, or None if there is none."""
    known = {literal: True for literal in cube}
    grown = True
    while grown:
        grown = False
        for clause in formula[1]:
            left = [literal for literal in clause if -literal not in known]
            if not left:
                return None
            if len(left) == 1 and left[0] not in known:
                known[left[0]] = True
                grown = True
    return tuple(sorted(known))


def extended(cube, literal):
    """The cube with one more literal."""
    return tuple(sorted((*cube, literal)))


def negated(clause):
    """The tuple of the negations of the literals of a clause: the least cube that falsifies it."""
    return tuple([-literal for literal in reversed(clause)])
