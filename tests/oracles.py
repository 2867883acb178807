"""Slow and plain ways to tell what is right, for the tests."""

import itertools
import random


class Raising:
    """An object that answers every question with an error."""

    __hash__ = None

    def __eq__(self, other):
        raise RuntimeError("compared")

    def __ne__(self, other):
        raise RuntimeError("compared")

    def __lt__(self, other):
        raise RuntimeError("ordered")

    def __len__(self):
        raise RuntimeError("measured")

    def __iter__(self):
        raise RuntimeError("iterated")

    def __bool__(self):
        raise RuntimeError("tested")


def nested(depth, inner, kind):
    value = inner
    for _ in range(depth):
        value = [value] if kind is list else {"a": value} if kind is dict else (value,)
    return value


def strange_values():
    """Values of all kinds, none of which is of a form that the document tells, but for ()."""
    plain = [0, 1, -1, 10 ** 40, True, False, None, 1.5, float("nan"), "", "formula", "a\u00e9", b"", b"axiom",
             [], [1], {}, {1: 2}, set(), {1, 2}, frozenset([1]), range(3), Raising(), object(), int, len]
    deep = [nested(200, 1, tuple), nested(200, "leaf", list), nested(200, (), dict), nested(199, None, tuple)]
    tuples = [(value,) for value in plain] + [(0, value) for value in plain] + [(value, ()) for value in plain]
    tuples += [("leaf", value) for value in plain] + [("ask", 1, value, value) for value in plain]
    tuples += [("ask", value, ("leaf", 0), ("leaf", 0)) for value in plain]
    tuples += [("model", value) for value in plain] + [("refutation", value) for value in plain]
    tuples += [((value, 1),) for value in plain] + [(((), value),) for value in plain[4:]]
    tuples += [(("axiom", value),) for value in plain[4:]] + [((value, 0),) for value in plain]
    tuples += [(("axiom", 0), value) for value in plain] + [((value,),) for value in plain[4:]]
    return plain + deep + tuples


def assignments(n):
    for signs in itertools.product((-1, 1), repeat=n):
        yield tuple(sorted(sign * v for sign, v in zip(signs, range(1, n + 1))))


def cubes(n):
    """All cubes, or clauses, of the variables from 1 to n, ascending."""
    found = []
    for signs in itertools.product((-1, 0, 1), repeat=n):
        found.append(tuple(sorted(sign * v for sign, v in zip(signs, range(1, n + 1)) if sign)))
    return sorted(found)


def is_true(clause, cube):
    return bool(set(clause) & set(cube))


def is_false(clause, cube):
    return {-literal for literal in clause} <= set(cube)


def models(formula):
    n, clauses = formula
    return [cube for cube in assignments(n) if all(is_true(clause, cube) for clause in clauses)]


def random_formula(source, n, count, widest=3):
    """A formula with up to `count` clauses of n variables."""
    rows = set()
    for _ in range(count):
        width = source.randint(0 if source.random() < 0.02 else 1, widest)
        variables = source.sample(range(1, n + 1), min(n, width))
        rows.add(tuple(sorted(source.choice((v, -v)) for v in variables)))
    return (n, tuple(sorted(rows)))


def random_formulas(seed, count, most_variables=5, most_clauses=16, widest=3):
    source = random.Random(seed)
    for _ in range(count):
        n = source.randint(1, most_variables)
        yield random_formula(source, n, source.randint(0, most_clauses), widest)


def random_refutable(seed, count, most_variables=5, most_clauses=16, widest=3):
    """Formulas without models."""
    source = random.Random(seed)
    found = 0
    while found < count:
        n = source.randint(1, most_variables)
        formula = random_formula(source, n, source.randint(2, most_clauses), widest)
        if not models(formula):
            found += 1
            yield formula


def clauses_of_steps(formula, steps):
    """The clauses of a derivation, or None if it is none; independent of the program."""
    known = []
    for step in steps:
        if step[0] == "axiom":
            clause = formula[1][step[1]]
        elif step[0] == "resolve":
            _, a, b, v = step
            if not (v in known[a] and -v in known[b] and v > 0):
                return None
            clause = tuple(sorted((set(known[a]) | set(known[b])) - {v, -v}))
        else:
            _, a, clause = step
            if not set(known[a]) <= set(clause) or tuple(sorted(set(clause))) != clause:
                return None
        if any(-literal in clause for literal in clause):
            return None
        known.append(clause)
    return known


def random_refutation(source, formula):
    """A refutation with steps that are weakened, repeated or not used, or None if none was found."""
    steps = []
    known = []
    for index, clause in enumerate(formula[1]):
        steps.append(("axiom", index))
        known.append(clause)
    for _ in range(400):
        if known and known[-1] == ():
            return tuple(steps)
        if source.random() < 0.15:
            a = source.randrange(len(known))
            extra = [v for v in range(1, formula[0] + 1) if v not in known[a] and -v not in known[a]]
            added = [source.choice((v, -v)) for v in extra if source.random() < 0.4]
            clause = tuple(sorted(known[a] + tuple(added)))
            steps.append(("weaken", a, clause))
            known.append(clause)
            continue
        choices = []
        for _ in range(30):
            a, b = source.randrange(len(known)), source.randrange(len(known))
            clash = [v for v in known[a] if v > 0 and -v in known[b]]
            if len(clash) == 1 and not any(-x in known[b] and abs(x) != clash[0] for x in known[a]):
                clause = tuple(sorted((set(known[a]) | set(known[b])) - {clash[0], -clash[0]}))
                choices.append((len(clause), a, b, clash[0], clause))
        if choices:
            _, a, b, v, clause = min(choices) if source.random() < 0.7 else source.choice(choices)
            steps.append(("resolve", a, b, v))
            known.append(clause)
    return None


def random_refutations(seed, count, **more):
    """Pairs of a formula and a refutation of it."""
    source = random.Random(seed)
    found = 0
    for formula in random_refutable(seed + 1, count * 4, **more):
        steps = random_refutation(source, formula)
        if steps is not None:
            found += 1
            yield formula, steps
        if found == count:
            return
    raise AssertionError("too few refutations")


def value_of(formula, cube, kind):
    """The least depth, rank or number of leaves of a right tree below a cube, for a formula without models."""
    if any(is_false(clause, cube) for clause in formula[1]):
        return 1 if kind == "leaves" else 0
    found = []
    for v in range(1, formula[0] + 1):
        if v not in cube and -v not in cube:
            low, high = (value_of(formula, cube + (x,), kind) for x in (-v, v))
            if kind == "depth":
                found.append(1 + max(low, high))
            elif kind == "rank":
                found.append(max(low, high) + (low == high))
            else:
                found.append(low + high)
    return min(found)


def plain_saturated(formula, k):
    found = {clause for clause in formula[1] if len(clause) <= k}
    while True:
        new = set()
        for first, second in itertools.product(found, repeat=2):
            for v in first:
                rest = (set(first) | set(second)) - {v, -v}
                if v > 0 and -v in second and not any(-x in rest for x in rest) and len(rest) <= k:
                    new.add(tuple(sorted(rest)))
        if new <= found:
            return tuple(sorted(found))
        found |= new


def all_formulas(n):
    """All formulas of n variables."""
    clauses = cubes(n)
    for bits in itertools.product((False, True), repeat=len(clauses)):
        yield (n, tuple(clause for clause, bit in zip(clauses, bits) if bit))


def monomials(n, most=None):
    """All monomials of at most so many of the variables from 1 to n."""
    sizes = range(n + 1 if most is None else min(n, most) + 1)
    return sorted(row for size in sizes for row in itertools.combinations(range(1, n + 1), size))


def as_set(p):
    """A polynomial as a set of sets of variables."""
    return frozenset(frozenset(monomial) for monomial in p)


def as_tuple(p):
    return tuple(sorted(tuple(sorted(monomial)) for monomial in p))


def set_times(p, q):
    """The product of two polynomials that are sets of sets."""
    found = frozenset()
    for first in p:
        for second in q:
            found ^= frozenset([first | second])
    return found


def set_of_clause(clause):
    """The polynomial of a clause, as a set of sets, by its values at all assignments of its variables."""
    positive = [literal for literal in clause if literal > 0]
    negative = frozenset(-literal for literal in clause if literal < 0)
    found = set()
    for size in range(len(positive) + 1):
        for row in itertools.combinations(positive, size):
            found.add(negative | frozenset(row))
    return frozenset(found)


def set_degree(p):
    return max((len(monomial) for monomial in p), default=-1)


def is_spanned(wanted, rows):
    """Whether a polynomial is a sum of some others, all of them sets of sets."""
    basis = []
    for row in list(rows) + [wanted]:
        last = row
        for lead, other in basis:
            if lead in last:
                last ^= other
        if last:
            lead = min(last, key=lambda monomial: (-len(monomial), sorted(monomial)))
            basis.append((lead, last))
    return not last


def reaches_one(formula, k):
    """Whether a calculation within k refutes a formula: by all sums for few variables, else by elimination."""
    n, clauses = formula
    start = [set_of_clause(clause) for clause in clauses if len(clause) <= k]
    if n <= 3:
        return frozenset([frozenset()]) in closed_space(n, k, start)
    basis = {}
    waiting = start
    while waiting:
        p = waiting.pop()
        while p:
            lead = max(p, key=lambda monomial: (len(monomial), sorted(monomial)))
            if lead not in basis:
                basis[lead] = p
                if set_degree(p) < k:
                    waiting.extend(set_times(p, [frozenset([v])]) for v in range(1, n + 1))
                break
            p = p ^ basis[lead]
    return frozenset() in basis


def closed_space(n, k, polynomials):
    """All sums that can be reached within k, as sets of sets."""
    space = {frozenset()}
    waiting = list(polynomials)
    while waiting:
        p = waiting.pop()
        if p in space:
            continue
        new = {p ^ q for q in space}
        space |= new
        for q in new:
            if set_degree(q) < k:
                waiting.extend(set_times(q, [frozenset([v])]) for v in range(1, n + 1))
    return space


def least_degree(formula):
    """The least k such that a calculation within k refutes the formula; it has no model."""
    return min(k for k in range(formula[0] + 1) if reaches_one(formula, k))


def static_products(formula, k):
    """All products of a monomial and the polynomial of a clause with a degree of at most k."""
    found = []
    for clause in formula[1]:
        for monomial in monomials(formula[0]):
            p = set_times([frozenset(monomial)], set_of_clause(clause))
            if set_degree(p) <= k:
                found.append(p)
    return found


def least_static(formula):
    """The least degree of a static refutation of a formula without models."""
    one = frozenset([frozenset()])
    for k in range(formula[0] + 1):
        if is_spanned(one, static_products(formula, k)):
            return k
    raise AssertionError("no static refutation")


def least_number(formula, kind):
    """The number of a formula without models for one of the six kinds."""
    if kind == "width":
        return min(k for k in range(formula[0] + 1) if () in plain_saturated(formula, k))
    if kind == "degree":
        return least_degree(formula)
    if kind == "static":
        return least_static(formula)
    return value_of(formula, (), kind)


def random_tree(source, formula, cube=(), late=0.2):
    """A right tree of a formula without models, which may go on asking where a clause is false already."""
    wrong = [at for at, clause in enumerate(formula[1]) if is_false(clause, cube)]
    free = [v for v in range(1, formula[0] + 1) if v not in cube and -v not in cube]
    if wrong and (not free or source.random() > late):
        return ("leaf", source.choice(wrong))
    v = source.choice(free)
    return ("ask", v, random_tree(source, formula, cube + (-v,), late), random_tree(source, formula, cube + (v,), late))


def leaves(tree, cube=()):
    """The pairs of the cube and the index of all leaves."""
    if tree[0] == "leaf":
        return [(cube, tree[1])]
    return leaves(tree[2], cube + (-tree[1],)) + leaves(tree[3], cube + (tree[1],))


def plain_polynomials(formula, lines):
    """The polynomials of right lines, by the words of the document."""
    found = []
    for line in lines:
        if line[0] == "axiom":
            found.append(set_of_clause(formula[1][line[1]]))
        elif line[0] == "add":
            found.append(found[line[1]] ^ found[line[2]])
        else:
            found.append(set_times(found[line[1]], [frozenset([line[2]])]))
    return [as_tuple(p) for p in found]


def plain_inequalities(formula, cuts):
    """The inequalities of a right row of cuts, by the words of the document."""
    n, clauses = formula
    found = []
    for cut in cuts:
        word = cut[0]
        if word == "axiom":
            clause = clauses[cut[1]]
            factors = [(v in clause) - (-v in clause) for v in range(1, n + 1)]
            found.append((factors, 1 - sum(literal < 0 for literal in clause)))
        elif word in ("low", "high"):
            sign = 1 if word == "low" else -1
            found.append(([sign * (v == cut[1]) for v in range(1, n + 1)], min(0, sign)))
        elif word == "add":
            (first, low), (second, high) = found[cut[1]], found[cut[2]]
            found.append(([a + b for a, b in zip(first, second)], low + high))
        elif word == "times":
            factors, bound = found[cut[1]]
            found.append(([factor * cut[2] for factor in factors], bound * cut[2]))
        else:
            factors, bound = found[cut[1]]
            assert all(factor % cut[2] == 0 for factor in factors) and cut[2] >= 1
            found.append(([factor // cut[2] for factor in factors], -(-bound // cut[2])))
    return [(tuple(factors), bound) for factors, bound in found]


def plain_forced(clauses, literals):
    """What some literals force by the clauses, as a set, or None; by the words of the document."""
    found = set(literals)
    while True:
        grown = set(found)
        for clause in clauses:
            left = [literal for literal in clause if -literal not in found]
            if not left:
                return None
            if len(left) == 1:
                grown.add(left[0])
        if any(-literal in grown for literal in grown):
            return None
        if grown == found:
            return found
        found = grown


def plain_follows(clauses, clause):
    return plain_forced(clauses, [-literal for literal in clause]) is None


def plain_is_log(formula, log):
    """Whether a tuple of clauses is a log."""
    known = list(formula[1])
    for clause in log:
        if not plain_follows(known, clause):
            return False
        known.append(clause)
    return bool(log) and log[-1] == ()


def is_plainly_regular(steps):
    """Whether no variable is resolved twice on a way, by going all ways."""
    def goes(at, seen):
        step = steps[at]
        if step[0] == "axiom":
            return True
        if step[0] == "weaken":
            return goes(step[1], seen)
        return step[3] not in seen and all(goes(b, seen | {step[3]}) for b in step[1:3])
    return goes(len(steps) - 1, frozenset())


def models_within(formula, indexes):
    """The models of the clauses with some indexes."""
    return models((formula[0], tuple(formula[1][at] for at in indexes)))


def random_graph(source):
    vertices = source.randint(1, 7)
    pairs = list(itertools.combinations(range(vertices), 2))
    edges = [source.choice(pairs) for _ in range(source.randint(0, 7))] if pairs else []
    odd = [source.randrange(vertices) for _ in range(source.randint(1, 6))]
    return vertices, edges, odd


def greatest_degree(vertices, edges):
    return max(sum(vertex in edge for edge in edges) for vertex in range(vertices))


def graphs():
    """Graphs with an odd number of different vertices that are to be odd."""
    yield 1, [], [0]
    yield 1, [], [0, 0, 0, 0]
    yield 2, [(0, 1)], [0]
    yield 2, [(0, 1)], [1, 1]
    yield 2, [(0, 1)] * 5, [1]
    yield 3, [(0, 1)] * 2 + [(1, 2)] * 3 + [(0, 2)], [2]
    yield 3, [(0, 2), (0, 1), (1, 2)], [0, 1, 2, 0]
    # Vertices without edges, which are to be odd or not, ahead of and behind the others.
    yield 5, [(1, 3)], [1]
    yield 5, [(1, 3)], [0]
    yield 5, [(1, 3)], [4, 1, 3]
    yield 6, [], [5]
    yield 7, [], [1, 3, 5]
    # Several components, in one of which something is wrong.
    yield 6, [(0, 1), (1, 2), (0, 2), (3, 4), (4, 5), (3, 5)], [4]
    yield 6, [(0, 3), (1, 4), (2, 5)], [0, 3, 5]
    yield 8, [(v, v + 1) for v in range(7)], [7]
    yield 9, [(v, v + 1) for v in range(8)] + [(0, 8)], [3]
    yield 6, [(0, v) for v in range(1, 6)], [0]
    yield 5, list(itertools.combinations(range(5), 2)), [2]
    yield 200, [(7, 100), (100, 150), (7, 150)], [100]
    yield 10 ** 12, [(0, 10 ** 11)], [10 ** 11]
    yield 16, [(v, v + 1) for v in range(15)] + [(v, v + 4) for v in range(12)], [9]
    source = random.Random(56)
    for _ in range(150):
        vertices, edges, odd = random_graph(source)
        if len(set(odd)) % 2 == 1:
            yield vertices, edges, odd


def wrong_graphs():
    yield 0, [], []
    yield -1, [], [0]
    yield 0, [(0, 1)], [0]
    yield 3, [(0, 3)], [0]
    yield 3, [(-1, 1)], [0]
    yield 3, [(1, 0)], [0]
    yield 3, [(1, 1)], [0]
    yield 3, [(0, 1), (2, 1)], [0]
    yield 3, [(0, 1)], [3]
    yield 3, [(0, 1)], [-1]
    yield 3, [(0, 1)], [0, 1, 3]
    yield 2, [(0, 1)] * 41, [0]
    # An even number of different vertices.
    yield 3, [(0, 1)], []
    yield 1, [], []
    yield 3, [(0, 1)], [0, 1]
    yield 3, [(0, 1), (1, 2)], [0, 0, 2]
    yield 3, [(0, 1), (1, 2)], [0, 2, 2]
    yield 4, [], [0, 1, 2, 3]
