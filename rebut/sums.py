"""Trees that ask whether the number of true variables among some is even or odd."""

from rebut.clauses import made_clause
from rebut.families import odd_parity_formula, parity_rows
from rebut.forms import has_form, is_index
from rebut.polynomials import is_monomial, odd_ones
from rebut.trees import tree_depth


def bits_of(variables, parity):
    """An equation as the bits of a number: those of its variables, and the bit 0 for the parity."""
    return sum([1 << v for v in variables]) + parity


def rest_of(bits, leaders):
    """What is left of a number when others, by their lengths, are taken away from its greatest bits."""
    while bits.bit_length() in leaders:
        bits = bits ^ leaders[bits.bit_length()]
    return bits


def with_equation(leaders, variables, parity):
    """The numbers of independent equations, by their lengths, with what one more equation adds to them."""
    rest = rest_of(bits_of(variables, parity), leaders)
    grown = dict(leaders)
    if rest > 0:
        grown[rest.bit_length()] = rest
    return grown


def contradict(leaders):
    """Whether equations, as numbers by their lengths, contradict each other: then one of them is the number 1."""
    return 1 in leaders


def implies(leaders, variables, parity):
    """Whether equations, as numbers by their lengths, imply an equation."""
    return contradict(leaders) or rest_of(bits_of(variables, parity), leaders) == 0


def all_equations(equations):
    """The numbers of the equations of a list, by their lengths."""
    leaders = {}
    for variables, parity in equations:
        leaders = with_equation(leaders, variables, parity)
    return leaders


def implied(equations, equation):
    """Whether every assignment that satisfies all equations of a list satisfies an equation."""
    return implies(all_equations(equations), equation[0], equation[1])


def solvable(equations):
    """Whether some assignment satisfies all equations of a list."""
    return not contradict(all_equations(equations))


def is_sum_tree_at(formula, value, leaders):
    """Whether any value is right as the sum tree at a node where some equations hold."""
    if has_form(value, "leaf", 2):
        if not is_index(value[1], len(formula[1])):
            return False
        return all([implies(leaders, (abs(literal),), 1 if literal < 0 else 0) for literal in formula[1][value[1]]])
    if not has_form(value, "sum", 4) or not is_monomial(formula[0], value[1]) or value[1] == ():
        return False
    for parity in (0, 1):
        if not is_sum_tree_at(formula, value[2 + parity], with_equation(leaders, value[1], parity)):
            return False
    return True


def is_sum_tree(formula, value):
    """Whether any value is a right sum tree for a formula."""
    return is_sum_tree_at(formula, value, {})


def sum_depth(tree):
    """The greatest number of questions on a way."""
    # A question has its two trees at the same places as one for a variable.
    return tree_depth(tree)


def find_sum_leaf(tree, cube):
    """The index of the clause of the leaf to which an assignment leads."""
    while tree[0] == "sum":
        tree = tree[2 + len([v for v in tree[1] if v in cube]) % 2]
    return tree[1]


def sums_of_tree(tree):
    """The sum tree that asks for the same variables as a tree of queries, one by one."""
    if tree[0] == "leaf":
        return tree
    return ("sum", (tree[1],), sums_of_tree(tree[2]), sums_of_tree(tree[3]))


def tree_of_vertex(variables, cube, places):
    """The sum tree that asks for the variables at a vertex, behind those in a cube, and ends at the false clause."""
    if len(cube) == len(variables):
        # Where there is no such clause, the sums that have been asked for lead no assignment here.
        return ("leaf", places.get(made_clause([-literal for literal in cube]), 0))
    v = variables[len(cube)]
    even = tree_of_vertex(variables, (*cube, -v), places)
    return ("sum", (v,), even, tree_of_vertex(variables, (*cube, v), places))


def tree_of_rows(rows, places):
    """The sum tree for some vertices, one of which does not have the parity that it is to have."""
    if len(rows) == 1:
        return tree_of_vertex(rows[0][0], (), places)
    middle = (len(rows) + 1) // 2
    first, second = rows[:middle], rows[middle:]
    # The edges that lead from one half to all other vertices: the others stand twice.
    leaving = odd_ones([v for variables, _ in first for v in variables])
    if sum([parity for _, parity in first]) % 2 == 0:
        even, odd = second, first
    else:
        even, odd = first, second
    if leaving == ():
        return tree_of_rows(even, places)
    return ("sum", leaving, tree_of_rows(even, places), tree_of_rows(odd, places))


def parity_sums(vertices, edges, odd):
    """A right sum tree for the parity formula of a graph without a model, which halves the vertices."""
    formula = odd_parity_formula(vertices, edges, odd)
    places = {clause: at for at, clause in enumerate(formula[1])}
    return tree_of_rows(parity_rows(edges, odd), places)
