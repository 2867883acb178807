"""Trees of queries, and how they and refutations become each other."""

from rebut.clauses import falsifies
from rebut.forms import has_form, is_index, is_variable
from rebut.resolution import resolvent


def is_tree(formula, value):
    """Whether any value is a right tree for a formula."""
    return is_tree_at(formula, value, ())


def is_tree_at(formula, value, answers):
    """Whether any value is right as the tree at a node with some answers."""
    if has_form(value, "leaf", 2):
        return is_index(value[1], len(formula[1])) and falsifies(answers, formula[1][value[1]])
    if not has_form(value, "ask", 4) or not is_variable(formula[0], value[1]):
        return False
    v = value[1]
    if v in answers or -v in answers:
        return False
    return is_tree_at(formula, value[2], (*answers, -v)) and is_tree_at(formula, value[3], (*answers, v))


def tree_depth(tree):
    """The greatest number of questions on a way."""
    if tree[0] == "leaf":
        return 0
    return 1 + max(tree_depth(tree[2]), tree_depth(tree[3]))


def tree_leaves(tree):
    """The number of leaves."""
    if tree[0] == "leaf":
        return 1
    return tree_leaves(tree[2]) + tree_leaves(tree[3])


def tree_rank(tree):
    """The rank: at a question the greater rank of both trees, or one more if they are equal."""
    if tree[0] == "leaf":
        return 0
    low = tree_rank(tree[2])
    high = tree_rank(tree[3])
    return low + 1 if low == high else max(low, high)


def find_leaf(tree, cube):
    """The index of the clause of the leaf to which the answers of an assignment lead."""
    while tree[0] == "ask":
        tree = tree[3] if tree[1] in cube else tree[2]
    return tree[1]


def needed_tree(formula, tree):
    """The tree without questions that refute nothing, and the clause that it refutes with."""
    if tree[0] == "leaf":
        return (tree, formula[1][tree[1]])
    v = tree[1]
    low, low_clause = needed_tree(formula, tree[2])
    if v not in low_clause:
        return (low, low_clause)
    high, high_clause = needed_tree(formula, tree[3])
    if -v not in high_clause:
        return (high, high_clause)
    return (("ask", v, low, high), resolvent(low_clause, high_clause, v))


def steps_from(tree, start):
    """The list of a step for each node of a tree, those for `low` first, where `start` steps come before them."""
    if tree[0] == "leaf":
        return [("axiom", tree[1])]
    low = steps_from(tree[2], start)
    middle = start + len(low)
    high = steps_from(tree[3], middle)
    return low + high + [("resolve", middle - 1, middle + len(high) - 1, tree[1])]


def steps_of_tree(formula, tree):
    """A treelike refutation without steps `weaken` that follows a right tree."""
    return tuple(steps_from(needed_tree(formula, tree)[0], 0))


def tree_of_steps(formula, steps):
    """The right tree that follows from a refutation."""
    return tree_at_step(steps, len(steps) - 1, ())


def tree_at_step(steps, at, answers):
    """The tree that follows from a refutation at one of its steps, behind some answers."""
    step = steps[at]
    while step[0] != "axiom":
        if step[0] == "weaken":
            step = steps[step[1]]
        elif step[3] in answers:
            step = steps[step[2]]
        elif -step[3] in answers:
            step = steps[step[1]]
        else:
            v = step[3]
            low = tree_at_step(steps, step[1], (*answers, -v))
            return ("ask", v, low, tree_at_step(steps, step[2], (*answers, v)))
    return ("leaf", step[1])
