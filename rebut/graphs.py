"""Graphs of queries: trees of queries in which equal parts are shared."""

from rebut.clauses import falsifies
from rebut.forms import has_form, is_index, is_tuple, is_variable
from rebut.resolution import Derivation
from rebut.rows import followed


def asked_from(formula, known, node):
    """The variables asked from a node on, as the bits of a number, behind nodes of which they are known.

    The node is any value; the answer is None if it has not the form of a node, or if its variable is asked again.
    """
    if has_form(node, "leaf", 2):
        return 0 if is_index(node[1], len(formula[1])) else None
    if not has_form(node, "ask", 4) or not is_variable(formula[0], node[1]):
        return None
    if not is_index(node[2], len(known)) or not is_index(node[3], len(known)):
        return None
    later = known[node[2]] | known[node[3]]
    bit = 1 << node[1]
    return None if later & bit else later | bit


def common_answers(known, answers):
    """The answers that are among known ones, too, or all of them if none are known yet."""
    return answers if known is None else [literal for literal in answers if literal in known]


def answers_at(graph):
    """For each node, the list of the answers that all ways to it have in common, or None if there is no way."""
    found = [None] * len(graph)
    found[-1] = []
    for at in reversed(range(len(graph))):
        if graph[at][0] == "ask" and found[at] is not None:
            _, v, low, high = graph[at]
            found[low] = common_answers(found[low], [*found[at], -v])
            found[high] = common_answers(found[high], [*found[at], v])
    return found


def is_right_node(formula, node, answers):
    """Whether some way leads to a node and, if it is a leaf, the answers on all ways falsify its clause."""
    if answers is None:
        return False
    return node[0] == "ask" or falsifies(answers, formula[1][node[1]])


def is_query_graph(formula, value):
    """Whether any value is a right graph of queries for a formula."""
    if not is_tuple(value) or not value:
        return False
    if len(followed(value, lambda known, node: asked_from(formula, known, node))) < len(value):
        return False
    return all([is_right_node(formula, node, answers) for node, answers in zip(value, answers_at(value))])


def tree_of_graph(graph):
    """The tree with the same answers as a graph."""
    trees = []
    for node in graph:
        trees.append(node if node[0] == "leaf" else ("ask", node[1], trees[node[2]], trees[node[3]]))
    return trees[-1]


class Sharing:
    """The nodes for some trees, equal ones of which share a node."""

    def __init__(self):
        self.places = {}

    def place_of_tree(self, tree):
        """The index of the node of a tree, which is added, with those of the trees in it, if it is new."""
        node = tree
        if tree[0] == "ask":
            low = self.place_of_tree(tree[2])
            node = ("ask", tree[1], low, self.place_of_tree(tree[3]))
        return self.places.setdefault(node, len(self.places))


def graph_of_tree(tree):
    """The graph with a node for each different tree that is contained in a right tree."""
    sharing = Sharing()
    sharing.place_of_tree(tree)
    return tuple(sharing.places)


def graph_leaf(graph, cube):
    """The index of the clause of the leaf to which the answers of an assignment lead."""
    node = graph[-1]
    while node[0] == "ask":
        node = graph[node[3] if node[1] in cube else node[2]]
    return node[1]


def graph_of_steps(steps):
    """The graph with a node for each step of a regular refutation without steps `weaken`."""
    return tuple([("leaf", step[1]) if step[0] == "axiom" else ("ask", step[3], step[1], step[2]) for step in steps])


def steps_of_graph(formula, graph):
    """A regular refutation without steps `weaken` that follows a right graph."""
    derivation = Derivation()
    # For each node, a step whose clause the answers on each way to the node falsify.
    places = []
    for node in graph:
        if node[0] == "leaf":
            places.append(derivation.stepped(("axiom", node[1]), formula[1][node[1]]))
        else:
            places.append(derivation.resolved_if_needed(places[node[2]], places[node[3]], node[1]))
    return derivation.steps_to(places[-1])
