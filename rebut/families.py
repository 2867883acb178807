"""Families of formulas."""

from rebut.clauses import MOST_VARIABLES, gathered, made_clause, made_formula
from rebut.errors import BadFormula


def chain_formula(n):
    """1 is true, each variable makes the next one true, and n is false."""
    if not 1 <= n <= MOST_VARIABLES:
        raise BadFormula("the number of variables is not from 1 to 40")
    return made_formula(n, [[1], [-n]] + [[-i, i + 1] for i in range(1, n)])


def pigeon_formula(p, h):
    """Each of p pigeons sits in one of h holes, and no two in the same."""
    if p < 1 or h < 1 or p * h > MOST_VARIABLES:
        raise BadFormula("the numbers of pigeons and holes are not allowed")
    rows = [[(i - 1) * h + j for j in range(1, h + 1)] for i in range(1, p + 1)]
    pairs = [[-rows[i][j], -rows[k][j]] for j in range(h) for k in range(p) for i in range(k)]
    return made_formula(p * h, rows + pairs)


def check_graph(vertices, edges, odd):
    """Raises BadFormula where parity_formula does."""
    if vertices < 1 or len(edges) > MOST_VARIABLES:
        raise BadFormula("the numbers of vertices or edges are not allowed")
    for low, high in edges:
        if not 0 <= low < high < vertices:
            raise BadFormula("an edge has vertices that are missing or do not ascend")
    for vertex in odd:
        if not 0 <= vertex < vertices:
            raise BadFormula("a vertex that is to be odd is missing")


def parity_clauses(variables, parity):
    """The clauses of a list of variables which say that the number of the true ones has a parity."""
    clauses = [()]
    # For each clause, whether an odd number of variables is true where the clause is false.
    counts = [0]
    for v in variables:
        clauses = [clause + (v,) for clause in clauses] + [clause + (-v,) for clause in clauses]
        counts = counts + [1 - count for count in counts]
    return [made_clause(clause) for clause, count in zip(clauses, counts) if count != parity]


def parity_formula(vertices, edges, odd):
    """At each vertex of a graph the number of true edges is odd or even, as a list tells."""
    check_graph(vertices, edges, odd)
    clauses = []
    # Any other vertex has no edges and is to be even, so it has no clause.
    for vertex in sorted({end for edge in edges for end in edge} | set(odd)):
        variables = [k + 1 for k, edge in enumerate(edges) if vertex in edge]
        clauses.extend(parity_clauses(variables, 1 if vertex in odd else 0))
    return gathered(len(edges), clauses)


def order_formula(n):
    """The numbers from 1 to n are ordered, and none is the least one."""
    if n < 1 or n * (n - 1) // 2 > MOST_VARIABLES:
        raise BadFormula("the number of what is ordered is not allowed")
    numbers = list(range(1, n + 1))
    pairs = [(i, j) for i in numbers for j in numbers if i < j]
    before = {}
    for at, (i, j) in enumerate(pairs):
        before[(i, j)] = at + 1
        before[(j, i)] = -(at + 1)
    triples = [(i, j, k) for i in numbers for j in numbers for k in numbers if i != j and j != k and k != i]
    cycles = [[-before[(i, j)], -before[(j, k)], -before[(k, i)]] for i, j, k in triples]
    firsts = [[before[(j, i)] for j in numbers if j != i] for i in numbers]
    return made_formula(len(pairs), cycles + firsts)


def pebble_formula(rows):
    """Each variable is true if all that its row lists are, and the last one is false."""
    if not 1 <= len(rows) <= MOST_VARIABLES:
        raise BadFormula("the number of rows is not from 1 to 40")
    for k, row in enumerate(rows):
        for v in row:
            if not 1 <= v <= k:
                raise BadFormula("a row lists a variable that is not before its own")
    clauses = [[k + 1] + [-v for v in row] for k, row in enumerate(rows)]
    return made_formula(len(rows), clauses + [[-len(rows)]])
