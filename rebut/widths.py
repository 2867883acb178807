"""Width: closed sets of clauses, families of cubes, and saturation."""

from rebut.clauses import ascends, extended, falsifies, is_clause, negated
from rebut.forms import is_tuple
from rebut.resolution import contains, resolvent


def is_ascending_row(n, most, value):
    """Whether any value is an ascending tuple of clauses, or cubes, with widths of at most a number."""
    if not is_tuple(value):
        return False
    for clause in value:
        if not is_clause(n, clause) or len(clause) > most:
            return False
    return ascends(value)


def narrow_clauses(formula, k):
    """The list of the clauses of a formula with a width of at most k."""
    return [clause for clause in formula[1] if len(clause) <= k]


def is_covered(clauses, clause):
    """Whether a clause contains all literals of one of some clauses."""
    return any([contains(clause, part) for part in clauses])


def resolvents(first, second):
    """The list of the clauses that come from a clause with v and one with -v, for each variable v."""
    clauses = [resolvent(first, second, v) for v in first if v > 0 and -v in second]
    return [clause for clause in clauses if clause is not None]


def is_closed(formula, k, value):
    """Whether any value is a closed set for k."""
    if not is_ascending_row(formula[0], k, value) or () in value:
        return False
    wanted = {clause: True for clause in narrow_clauses(formula, k)}
    for first in value:
        for second in value:
            for clause in resolvents(first, second):
                if len(clause) <= k:
                    wanted[clause] = True
    for clause in wanted:
        if not is_covered(value, clause):
            return False
    return True


def is_held(n, k, inside, cube):
    """Whether the cubes beside one, in a dictionary of cubes, are there as a family for k wants it."""
    for at in range(len(cube)):
        if cube[:at] + cube[at + 1:] not in inside:
            return False
    if len(cube) > k:
        return True
    for v in range(1, n + 1):
        if v not in cube and -v not in cube:
            if extended(cube, v) not in inside and extended(cube, -v) not in inside:
                return False
    return True


def is_family(formula, k, value):
    """Whether any value is a family for k."""
    if not is_ascending_row(formula[0], k + 1, value) or () not in value:
        return False
    inside = {cube: True for cube in value}
    narrow = narrow_clauses(formula, k)
    for cube in value:
        if is_barred(cube, narrow) or not is_held(formula[0], k, inside, cube):
            return False
    return True


def is_barred(cube, clauses):
    """Whether a cube falsifies one of some clauses."""
    return any([falsifies(cube, clause) for clause in clauses])


def open_cubes(n, most, clauses):
    """The ascending list of all cubes with at most so many literals that falsify none of some clauses."""
    cubes = [()]
    for v in range(1, n + 1):
        grown = [extended(cube, literal) for cube in cubes if len(cube) < most for literal in (-v, v)]
        cubes = cubes + [cube for cube in grown if not is_barred(cube, clauses)]
    return sorted(cubes)


def family_of(formula, k, closed):
    """The family for k of all cubes that falsify no clause of a closed set for k."""
    return tuple(open_cubes(formula[0], k + 1, closed))


def closed_of(formula, k, family):
    """The closed set for k of all clauses whose negated literals are no cube of a family for k."""
    inside = {cube: True for cube in family}
    clauses = open_cubes(formula[0], k, ())
    return tuple([clause for clause in clauses if negated(clause) not in inside])


def saturated(formula, k):
    """The ascending tuple of all clauses that can be derived from a formula within the width k."""
    found = {clause: True for clause in narrow_clauses(formula, k)}
    waiting = list(found)
    while waiting:
        clause = waiting.pop()
        # Each pair of clauses meets when the second one of both leaves the row of those that wait.
        for other in list(found):
            for grown in resolvents(clause, other) + resolvents(other, clause):
                if len(grown) <= k and grown not in found:
                    found[grown] = True
                    waiting.append(grown)
    return tuple(sorted(found))
