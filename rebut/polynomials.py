"""Polynomials over two elements: sums, products, values, and what they reduce to."""

from rebut.clauses import ascends
from rebut.forms import is_tuple_of, is_variable

ONE = ((),)


def is_monomial(n, value):
    """Whether any value is an ascending tuple of variables from 1 to n."""
    return is_tuple_of(value, lambda v: is_variable(n, v)) and ascends(value)


def is_polynomial(n, value):
    """Whether any value is a polynomial in the variables from 1 to n."""
    return is_tuple_of(value, lambda monomial: is_monomial(n, monomial)) and ascends(value)


def odd_ones(rows):
    """The ascending tuple of what stands in a list an odd number of times."""
    odd = {}
    for row in rows:
        odd[row] = not odd.get(row, False)
    return tuple([row for row in sorted(odd) if odd[row]])


def plus(p, q):
    """The sum of two polynomials."""
    return odd_ones([*p, *q])


def times(p, q):
    """The product of two polynomials."""
    return odd_ones([tuple(sorted(set(first + second))) for first in p for second in q])


def degree(p):
    """The greatest number of variables of a monomial, -1 for 0."""
    return max([len(monomial) for monomial in p], default=-1)


def value_at(p, cube):
    """The value, 0 or 1, for an assignment."""
    return len([monomial for monomial in p if all([v in cube for v in monomial])]) % 2


def literal_polynomial(literal):
    """The polynomial that is 1 exactly where a literal is true."""
    return ((literal,),) if literal > 0 else ((), (-literal,))


def cube_polynomial(cube):
    """The polynomial that is 1 exactly where all literals of a cube are true."""
    p = ONE
    for literal in cube:
        p = times(p, literal_polynomial(literal))
    return p


def clause_polynomial(clause):
    """The polynomial that is 1 exactly where a clause is false."""
    return cube_polynomial([-literal for literal in clause])


def weight(monomial):
    """By what monomials are compared: the number of variables first."""
    return (len(monomial), monomial)


def leading(p):
    """The greatest monomial of a polynomial that is not 0."""
    return max(p, key=weight)


def led(space):
    """The dictionary from the leading monomials of the polynomials of a space to these."""
    return {leading(p): p for p in space}


def reduction(p, leaders):
    """What a polynomial reduces to, and the list of the leading monomials whose polynomials were added."""
    left = {monomial: True for monomial in p}
    added = []
    tops = [monomial for monomial in left if monomial in leaders]
    while tops:
        top = max(tops, key=weight)
        added.append(top)
        for monomial in leaders[top]:
            if monomial in left:
                del left[monomial]
            else:
                left[monomial] = True
        tops = [monomial for monomial in left if monomial in leaders]
    return (tuple(sorted(left)), added)


def reduced(p, space):
    """What a polynomial reduces to by the polynomials of a space."""
    return reduction(p, led(space))[0]


def monomials_of(variables, most):
    """The list of all monomials of at most so many of some ascending variables."""
    monomials = [()]
    for v in variables:
        monomials = monomials + [(*monomial, v) for monomial in monomials if len(monomial) < most]
    return monomials
