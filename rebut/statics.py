"""Static refutations, and balances which show that there are none."""

from rebut.clauses import ascends
from rebut.forms import is_tuple_of
from rebut.polynomials import (ONE, clause_polynomial, degree, is_monomial, is_polynomial, leading, monomials_of,
                               odd_ones, plus, reduction, times, weight)


def is_static(formula, value):
    """Whether any value is a static refutation of a formula."""
    n, clauses = formula
    if not is_tuple_of(value, lambda factor: is_polynomial(n, factor)) or len(value) != len(clauses):
        return False
    total = ()
    for factor, clause in zip(value, clauses):
        total = plus(total, times(factor, clause_polynomial(clause)))
    return total == ONE


def static_degree(formula, factors):
    """The greatest degree of a product of a monomial of a factor and the polynomial of its clause."""
    degrees = [-1]
    for factor, clause in zip(factors, formula[1]):
        p = clause_polynomial(clause)
        degrees.extend([degree(times((monomial,), p)) for monomial in factor])
    return max(degrees)


def useful_products(formula, k):
    """The list of the triples of the index of a clause, a monomial, and the product of both, within the degree k.

    Other monomials give no other products: a variable that is negated in the clause changes nothing, and one that
    is not negated there makes the product 0.
    """
    rows = []
    for index, clause in enumerate(formula[1]):
        if len(clause) <= k:
            p = clause_polynomial(clause)
            others = [v for v in range(1, formula[0] + 1) if v not in clause and -v not in clause]
            for monomial in monomials_of(others, k - len(clause)):
                rows.append((index, monomial, times((monomial,), p)))
    return rows


def is_even_in(p, inside):
    """Whether an even number of the monomials of a polynomial are in a dictionary."""
    return len([monomial for monomial in p if monomial in inside]) % 2 == 0


def is_balance(formula, k, value):
    """Whether any value is a balance for k."""
    if not is_tuple_of(value, lambda monomial: is_monomial(formula[0], monomial) and len(monomial) <= k):
        return False
    if not ascends(value) or () not in value:
        return False
    inside = {monomial: True for monomial in value}
    return all([is_even_in(row[2], inside) for row in useful_products(formula, k)])


class Sums:
    """Sums of products, each with a leading monomial of its own, and the products that they consist of."""

    def __init__(self):
        self.leaders = {}
        # For each leading monomial, the ascending tuple of the pairs of the clause and the monomial of a product.
        self.uses = {}

    def uses_of(self, tops):
        """The products in the sum of those sums that have some leading monomials."""
        return odd_ones([pair for top in tops for pair in self.uses[top]])

    def take(self, pair, p):
        """Takes a product and the pair that it comes from."""
        rest, tops = reduction(p, self.leaders)
        if rest != ():
            top = leading(rest)
            self.leaders[top] = rest
            self.uses[top] = plus((pair,), self.uses_of(tops))


def balance_of(leaders):
    """The balance for the sums with some leading monomials, none of which is 1."""
    inside = {(): True}
    for top in sorted(leaders, key=weight):
        if not is_even_in(leaders[top], inside):
            inside[top] = True
    return tuple(sorted(inside))


def decide_static(formula, k):
    """A right paper for a question of the kind `static`."""
    sums = Sums()
    for index, monomial, p in useful_products(formula, k):
        sums.take((index, monomial), p)
    if () not in sums.leaders:
        return ("no", balance_of(sums.leaders))
    factors = [[] for _ in formula[1]]
    for index, monomial in sums.uses[()]:
        factors[index].append(monomial)
    return ("yes", tuple([tuple(factor) for factor in factors]))
