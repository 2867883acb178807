"""Width: closed sets of clauses, families of cubes, and saturation."""

from rebut.clauses import ascends, extended, falsifies, is_clause, negated
from rebut.forms import is_tuple_of
from rebut.resolution import Derivation, contains, resolvent


def is_ascending_row(n, most, value):
    """Whether any value is an ascending tuple of clauses, or cubes, with widths of at most a number."""
    return is_tuple_of(value, lambda clause: is_clause(n, clause) and len(clause) <= most) and ascends(value)


def narrow_clauses(formula, k):
    """The list of the clauses of a formula with a width of at most k."""
    return [clause for clause in formula[1] if len(clause) <= k]


def is_covered(clauses, clause):
    """Whether a clause contains all literals of one of some clauses."""
    return any([contains(clause, part) for part in clauses])


def resolvents(first, second):
    """The list of the clauses that come from a clause with v and one with -v, for each variable v."""
    clauses = [resolvent(first, second, v) for v in first if v > 0 and -v in second]
    return [clause for clause in clauses if clause is not None]


def is_closed(formula, k, value):
    """Whether any value is a closed set for k."""
    if not is_ascending_row(formula[0], k, value) or () in value:
        return False
    wanted = {clause: True for clause in narrow_clauses(formula, k)}
    for first in value:
        for second in value:
            for clause in resolvents(first, second):
                if len(clause) <= k:
                    wanted[clause] = True
    for clause in wanted:
        if not is_covered(value, clause):
            return False
    return True


def is_held(n, k, inside, cube):
    """Whether the cubes beside one, in a dictionary of cubes, are there as a family for k wants it."""
    for at in range(len(cube)):
        if cube[:at] + cube[at + 1:] not in inside:
            return False
    if len(cube) > k:
        return True
    for v in range(1, n + 1):
        if v not in cube and -v not in cube:
            if extended(cube, v) not in inside and extended(cube, -v) not in inside:
                return False
    return True


def is_family(formula, k, value):
    """Whether any value is a family for k."""
    if not is_ascending_row(formula[0], k + 1, value) or () not in value:
        return False
    inside = {cube: True for cube in value}
    narrow = narrow_clauses(formula, k)
    for cube in value:
        if is_barred(cube, narrow) or not is_held(formula[0], k, inside, cube):
            return False
    return True


def is_barred(cube, clauses):
    """Whether a cube falsifies one of some clauses."""
    return any([falsifies(cube, clause) for clause in clauses])


def open_cubes(n, most, clauses):
    """The ascending list of all cubes with at most so many literals that falsify none of some clauses."""
    cubes = [()]
    for v in range(1, n + 1):
        grown = [extended(cube, literal) for cube in cubes if len(cube) < most for literal in (-v, v)]
        cubes = cubes + [cube for cube in grown if not is_barred(cube, clauses)]
    return sorted(cubes)


def family_of(formula, k, closed):
    """The family for k of all cubes that falsify no clause of a closed set for k."""
    return tuple(open_cubes(formula[0], k + 1, closed))


def closed_of(formula, k, family):
    """The closed set for k of all clauses whose negated literals are no cube of a family for k."""
    inside = {cube: True for cube in family}
    clauses = open_cubes(formula[0], k, ())
    return tuple([clause for clause in clauses if negated(clause) not in inside])


class Saturation(Derivation):
    """The clauses that can be derived from a formula within a width, each one with its step."""

    def __init__(self, formula, k):
        Derivation.__init__(self)
        self.places = {}
        # For each width, the places of the clauses that still have to meet the others.
        self.waiting = [[] for _ in range(min(k, formula[0]) + 1)]
        # For each literal, the places of the clauses with it that have met.
        self.holders = {}
        for at, clause in enumerate(formula[1]):
            self.take(clause, ("axiom", at))

    def take(self, clause, step):
        """Takes a clause and its step, unless it is None, too wide, or there already."""
        if clause is not None and len(clause) < len(self.waiting) and clause not in self.places:
            self.waiting[len(clause)].append(len(self.clauses))
            self.places[clause] = self.stepped(step, clause)

    def meet(self):
        """Resolves a narrowest clause that waits with all that have met, and returns whether there was one."""
        widths = [width for width, row in enumerate(self.waiting) if row]
        if not widths:
            return False
        at = self.waiting[widths[0]].pop(0)
        clause = self.clauses[at]
        for literal in clause:
            self.holders.setdefault(literal, []).append(at)
            for other in self.holders.get(-literal, []):
                grown = resolvent(clause, self.clauses[other], abs(literal))
                first, second = (at, other) if literal > 0 else (other, at)
                self.take(grown, ("resolve", first, second, abs(literal)))
        return True


def saturated(formula, k):
    """The ascending tuple of all clauses that can be derived from a formula within the width k."""
    saturation = Saturation(formula, k)
    while saturation.meet():
        pass
    return tuple(sorted(saturation.clauses))


def decide_width(formula, k):
    """A right paper for a question of the kind `width`."""
    saturation = Saturation(formula, k)
    while () not in saturation.places and saturation.meet():
        pass
    if () not in saturation.places:
        return ("no", tuple(sorted(saturation.clauses)))
    return ("yes", saturation.steps_to(saturation.places[()]))
