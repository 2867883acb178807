"""Cutting planes: inequalities, rows of cuts, and one for pigeons."""

from rebut.errors import BadFormula
from rebut.families import pigeon_formula
from rebut.forms import has_form, is_index, is_integer, is_tuple, is_variable
from rebut.rows import Row, all_known, followed


def holds(inequality, cube):
    """Whether an inequality holds for an assignment."""
    factors, bound = inequality
    return sum([factor for v, factor in enumerate(factors, start=1) if v in cube]) >= bound


def factors_of(n, literals):
    """The tuple of n factors: 1 for the variables among some literals, -1 for negated ones, and 0 for the others."""
    return tuple([1 if v in literals else -1 if -v in literals else 0 for v in range(1, n + 1)])


def clause_inequality(n, clause):
    """The inequality that holds exactly where a clause is true."""
    return (factors_of(n, clause), 1 - len([literal for literal in clause if literal < 0]))


def sum_of_inequalities(first, second):
    """The sum of two inequalities."""
    return (tuple([low + high for low, high in zip(first[0], second[0])]), first[1] + second[1])


def multiple(inequality, c):
    """An inequality times an integer that is at least 1."""
    return (tuple([factor * c for factor in inequality[0]]), inequality[1] * c)


def quotient(inequality, c):
    """An inequality divided by an integer that is at least 1, with a bound that is rounded up, or None."""
    factors, bound = inequality
    if any([factor % c != 0 for factor in factors]):
        return None
    return (tuple([factor // c for factor in factors]), -(-bound // c))


def inequality_of_cut(formula, known, cut):
    """The inequality of any value behind cuts with known ones, or None if it is no right cut."""
    n, clauses = formula
    if has_form(cut, "axiom", 2) and is_index(cut[1], len(clauses)):
        return clause_inequality(n, clauses[cut[1]])
    if has_form(cut, "low", 2) and is_variable(n, cut[1]):
        return (factors_of(n, (cut[1],)), 0)
    if has_form(cut, "high", 2) and is_variable(n, cut[1]):
        return (factors_of(n, (-cut[1],)), -1)
    if has_form(cut, "add", 3) and is_index(cut[1], len(known)) and is_index(cut[2], len(known)):
        return sum_of_inequalities(known[cut[1]], known[cut[2]])
    if has_form(cut, "times", 3) and is_index(cut[1], len(known)) and is_integer(cut[2]) and cut[2] >= 1:
        return multiple(known[cut[1]], cut[2])
    if has_form(cut, "divide", 3) and is_index(cut[1], len(known)) and is_integer(cut[2]) and cut[2] >= 1:
        return quotient(known[cut[1]], cut[2])
    return None


def right_inequalities(formula, cuts):
    """The inequalities of the cuts of a tuple before the first one that is not right."""
    return followed(cuts, lambda known, cut: inequality_of_cut(formula, known, cut))


def inequalities_of(formula, cuts):
    """The inequalities of the cuts of a row; raises WrongStep if a cut is not right."""
    return all_known(right_inequalities(formula, cuts), cuts)


def excludes(formula, value):
    """Whether any value is a row of cuts from a formula that excludes everything."""
    if not is_tuple(value) or not value:
        return False
    known = right_inequalities(formula, value)
    if len(known) < len(value):
        return False
    factors, bound = known[-1]
    return bound >= 1 and all([factor == 0 for factor in factors])


class PigeonRow(Row):
    """A row of cuts from a formula that has the clause of each two negated variables of a hole."""

    def __init__(self, formula):
        Row.__init__(self)
        self.places = {clause: at for at, clause in enumerate(formula[1])}

    def axiom(self, clause):
        """Adds the cut for a clause of the formula and returns its place."""
        return self.added(("axiom", self.places[clause]))

    def at_most_one(self, variables):
        """Adds cuts which say that at most one of some variables is true; returns the place of the last one."""
        at = self.axiom((-variables[1], -variables[0]))
        for count in range(2, len(variables)):
            pairs = [self.axiom((-variables[count], -other)) for other in variables[:count]]
            at = self.added(("times", at, count - 1))
            at = self.added(("divide", self.summed([at, *pairs]), count))
        return at


def pigeon_cuts(p, h):
    """A row of cuts that excludes everything, from `pigeon_formula(p, h)` with p > h."""
    row = PigeonRow(pigeon_formula(p, h))
    if p <= h:
        raise BadFormula("there are not more pigeons than holes")
    # Of all pigeons, h + 1 are too many already.
    sits = [tuple([i * h + j for j in range(1, h + 1)]) for i in range(h + 1)]
    holes = [row.at_most_one([variables[j] for variables in sits]) for j in range(h)]
    pigeons = [row.axiom(clause) for clause in sits]
    row.summed(holes + pigeons)
    return tuple(row.parts)
