"""Calculations with polynomials: what is right, within which degree, and spaces which show that there are none."""

from rebut.clauses import ascends
from rebut.forms import has_form, is_index, is_tuple, is_tuple_of, is_variable
from rebut.polynomials import ONE, clause_polynomial, degree, is_polynomial, leading, led, plus, reduction, times
from rebut.rows import Row, all_known, followed, without_unused


def polynomial_of_line(formula, k, known, line):
    """The polynomial of any value behind lines with known ones, or None if it is no right line within k."""
    if has_form(line, "axiom", 2) and is_index(line[1], len(formula[1])):
        clause = formula[1][line[1]]
        # The degree of its polynomial is its width; a polynomial that is too great is not worked out.
        return clause_polynomial(clause) if len(clause) <= k else None
    if has_form(line, "add", 3) and is_index(line[1], len(known)) and is_index(line[2], len(known)):
        return plus(known[line[1]], known[line[2]])
    if has_form(line, "times", 3) and is_index(line[1], len(known)) and is_variable(formula[0], line[2]):
        p = known[line[1]]
        return times(p, ((line[2],),)) if degree(p) < k else None
    return None


def right_polynomials(formula, k, lines):
    """The polynomials of the lines of a tuple before the first one that is not right within k."""
    return followed(lines, lambda known, line: polynomial_of_line(formula, k, known, line))


def refutes_within(formula, k, value):
    """Whether any value is a calculation within k that refutes a formula."""
    if not is_tuple(value) or not value:
        return False
    known = right_polynomials(formula, k, value)
    return len(known) == len(value) and known[-1] == ONE


def beyond_all(formula):
    """A number within which every calculation from a formula is: a degree of n may be multiplied, too."""
    return formula[0] + 1


def polynomials_of(formula, lines):
    """The polynomials of the lines of a calculation; raises WrongStep if a line is not right."""
    return all_known(right_polynomials(formula, beyond_all(formula), lines), lines)


def refutes(formula, value):
    """Whether any value is a calculation that refutes a formula."""
    return refutes_within(formula, beyond_all(formula), value)


def has_space_form(n, k, value):
    """Whether any value is an ascending tuple of polynomials within k, not 0 or 1, that differ in what leads them."""
    if not is_tuple_of(value, lambda p: is_polynomial(n, p) and p not in ((), ONE) and degree(p) <= k):
        return False
    return ascends(value) and len(led(value)) == len(value)


def products(n, p):
    """The list of the products of a polynomial and each variable."""
    return [times(p, ((v,),)) for v in range(1, n + 1)]


def is_space(formula, k, value):
    """Whether any value is a space for k."""
    n, clauses = formula
    if not has_space_form(n, k, value):
        return False
    leaders = led(value)
    for clause in clauses:
        if len(clause) <= k and reduction(clause_polynomial(clause), leaders)[0] != ():
            return False
    for p in value:
        if degree(p) < k:
            for product in products(n, p):
                if reduction(product, leaders)[0] != ():
                    return False
    return True


class Growth:
    """A space that grows, and the lines of a calculation that reaches each of its polynomials."""

    def __init__(self):
        self.row = Row()
        self.leaders = {}
        # For each leading monomial, the place of the line of its polynomial.
        self.places = {}
        # The leading monomials in the order in which they came.
        self.order = []

    def take(self, p, line):
        """Takes the polynomial of a line into the space, as far as it is not there."""
        rest, tops = reduction(p, self.leaders)
        if rest == ():
            return
        place = self.row.added(line)
        top = leading(rest)
        self.leaders[top] = rest
        self.places[top] = self.row.summed([place] + [self.places[other] for other in tops])
        self.order.append(top)

    def has_one(self):
        """Whether the polynomial 1 has been reached; then it is that of the last line."""
        return () in self.leaders


def grown(formula, k):
    """The growth of all lines within k, or of those before the polynomial 1 was reached."""
    growth = Growth()
    for at, clause in enumerate(formula[1]):
        if len(clause) <= k and not growth.has_one():
            growth.take(clause_polynomial(clause), ("axiom", at))
    at = 0
    while at < len(growth.order) and not growth.has_one():
        top = growth.order[at]
        if len(top) < k:
            for v, product in enumerate(products(formula[0], growth.leaders[top]), start=1):
                if not growth.has_one():
                    growth.take(product, ("times", growth.places[top], v))
        at += 1
    return growth


def decide_degree(formula, k):
    """A right paper for a question of the kind `degree`."""
    growth = grown(formula, k)
    if growth.has_one():
        return ("yes", without_unused(growth.row.parts))
    return ("no", tuple(sorted([growth.leaders[top] for top in growth.order])))
