"""Families of formulas."""

from rebut.clauses import MOST_VARIABLES, gathered, made_clause, made_formula
from rebut.errors import BadFormula


def chain_formula(n):
    """1 is true, each variable makes the next one true, and n is false."""
    if not 1 <= n <= MOST_VARIABLES:
        raise BadFormula("the number of variables is not from 1 to 40")
    return made_formula(n, [[1], [-n]] + [[-i, i + 1] for i in range(1, n)])


def pigeon_formula(p, h):
    """Each of p pigeons sits in one of h holes, and no two in the same."""
    if p < 1 or h < 1 or p * h > MOST_VARIABLES:
        raise BadFormula("the numbers of pigeons and holes are not allowed")
    rows = [[(i - 1) * h + j for j in range(1, h + 1)] for i in range(1, p + 1)]
    pairs = [[-rows[i][j], -rows[k][j]] for j in range(h) for k in range(p) for i in range(k)]
    return made_formula(p * h, rows + pairs)


def check_graph(vertices, edges, odd):
    """Raises BadFormula where parity_formula does."""
    if vertices < 1 or len(edges) > MOST_VARIABLES:
        raise BadFormula("the numbers of vertices or edges are not allowed")
    for low, high in edges:
        if not 0 <= low < high < vertices:
            raise BadFormula("an edge has vertices that are missing or do not ascend")
    for vertex in odd:
        if not 0 <= vertex < vertices:
            raise BadFormula("a vertex that is to be odd is missing")


def parity_clauses(variables, parity):
    """The clauses of a list of variables which say that the number of the true ones has a parity."""
    clauses = [()]
    # For each clause, whether an odd number of variables is true where the clause is false.
    counts = [0]
    for v in variables:
        clauses = [clause + (v,) for clause in clauses] + [clause + (-v,) for clause in clauses]
        counts = counts + [1 - count for count in counts]
    return [made_clause(clause) for clause, count in zip(clauses, counts) if count != parity]


def parity_rows(edges, odd):
    """The list of the variables of the edges at each vertex of a graph, with the parity of the true ones."""
    # Any other vertex has no edges and is to be even, so it has no clause.
    rows = []
    for vertex in sorted({end for edge in edges for end in edge} | set(odd)):
        variables = [k + 1 for k, edge in enumerate(edges) if vertex in edge]
        rows.append((variables, 1 if vertex in odd else 0))
    return rows


def parity_formula(vertices, edges, odd):
    """At each vertex of a graph the number of true edges is odd or even, as a list tells."""
    check_graph(vertices, edges, odd)
    clauses = []
    for variables, parity in parity_rows(edges, odd):
        clauses.extend(parity_clauses(variables, parity))
    return gathered(len(edges), clauses)


def odd_parity_formula(vertices, edges, odd):
    """The formula of a graph that has no model since the number of vertices that are to be odd is odd."""
    formula = parity_formula(vertices, edges, odd)
    if len(set(odd)) % 2 == 0:
        raise BadFormula("the number of the vertices that are to be odd is even")
    return formula


def order_literals(numbers):
    """The dictionary from pairs of ascending numbers to the literals which say that the first one comes before."""
    before = {}
    for i, j in [(i, j) for i in numbers for j in numbers if i < j]:
        v = len(before) // 2 + 1
        before[(i, j)] = v
        before[(j, i)] = -v
    return before


def order_formula(n):
    """The numbers from 1 to n are ordered, and none is the least one."""
    if n < 1 or n * (n - 1) // 2 > MOST_VARIABLES:
        raise BadFormula("the number of what is ordered is not allowed")
    numbers = list(range(1, n + 1))
    before = order_literals(numbers)
    triples = [(i, j, k) for i in numbers for j in numbers for k in numbers if i != j and j != k and k != i]
    cycles = [[-before[(i, j)], -before[(j, k)], -before[(k, i)]] for i, j, k in triples]
    firsts = [[before[(j, i)] for j in numbers if j != i] for i in numbers]
    return made_formula(len(before) // 2, cycles + firsts)


def pebble_formula(rows):
    """Each variable is true if all that its row lists are, and the last one is false."""
    if not 1 <= len(rows) <= MOST_VARIABLES:
        raise BadFormula("the number of rows is not from 1 to 40")
    for k, row in enumerate(rows):
        for v in row:
            if not 1 <= v <= k:
                raise BadFormula("a row lists a variable that is not before its own")
    clauses = [[k + 1] + [-v for v in row] for k, row in enumerate(rows)]
    return made_formula(len(rows), clauses + [[-len(rows)]])
