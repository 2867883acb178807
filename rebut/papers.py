"""Questions, and papers which show that their answers are right."""

from rebut.calculus import decide_degree, is_space, refutes_within
from rebut.errors import BadQuestion
from rebut.forms import has_form, is_integer, is_text, is_tuple
from rebut.resolution import is_refutation, step_width
from rebut.statics import decide_static, is_balance, is_static, static_degree
from rebut.tables import decide_tree, is_table, number_in
from rebut.trees import is_tree, tree_depth, tree_leaves, tree_rank
from rebut.widths import decide_width, is_closed

KINDS = ("depth", "rank", "leaves", "width", "degree", "static")


def is_kind(value):
    """Whether any value is one of the six kinds."""
    return is_text(value) and value in KINDS


def is_question(value):
    """Whether any value is a question."""
    if not is_tuple(value) or len(value) != 2:
        return False
    return is_kind(value[0]) and is_integer(value[1]) and value[1] >= 0


def check_question(value):
    """Raises BadQuestion if any value is no question."""
    if not is_question(value):
        raise BadQuestion("the question is not a kind and a number")


def tree_number(kind, tree):
    """The number of a tree that a kind speaks of."""
    if kind == "depth":
        return tree_depth(tree)
    return tree_rank(tree) if kind == "rank" else tree_leaves(tree)


def shows_yes(formula, kind, k, data):
    """Whether any value is what a paper with the answer yes has as its data."""
    if kind == "width":
        return is_refutation(formula, data) and step_width(formula, data) <= k
    if kind == "degree":
        return refutes_within(formula, k, data)
    if kind == "static":
        return is_static(formula, data) and static_degree(formula, data) <= k
    return is_tree(formula, data) and tree_number(kind, data) <= k


def shows_no(formula, kind, k, data):
    """Whether any value is what a paper with the answer no has as its data."""
    if kind == "width":
        return is_closed(formula, k, data)
    if kind == "degree":
        return is_space(formula, k, data)
    if kind == "static":
        return is_balance(formula, k, data)
    return is_table(formula, kind, data) and number_in(kind, data, ()) > k


def check(formula, question, paper):
    """Whether any value is a right paper for a formula and a question; raises BadQuestion."""
    check_question(question)
    kind, k = question
    if has_form(paper, "yes", 2):
        return shows_yes(formula, kind, k, paper[1])
    return has_form(paper, "no", 2) and shows_no(formula, kind, k, paper[1])


def decide(formula, question):
    """A right paper for a formula and a question; raises BadQuestion."""
    check_question(question)
    kind, k = question
    if kind == "width":
        return decide_width(formula, k)
    if kind == "degree":
        return decide_degree(formula, k)
    if kind == "static":
        return decide_static(formula, k)
    return decide_tree(formula, kind, k)
