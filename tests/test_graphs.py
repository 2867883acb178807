import copy
import itertools
import random
import unittest

import oracles
from rebut.clauses import is_formula
from rebut.families import chain_formula, order_formula, parity_formula, pigeon_formula
from rebut.graphs import (graph_leaf, graph_of_steps, graph_of_tree, is_query_graph, steps_of_graph, tree_of_graph)
from rebut.papers import decide
from rebut.resolution import is_refutation, is_regular, pruned, strict_steps
from rebut.solving import solve
from rebut.trees import find_leaf, is_tree, steps_of_tree

ONE = (1, ((-1,), (1,)))
SMALL = (("leaf", 1), ("leaf", 0), ("ask", 1, 0, 1))
ALL_TWO = (2, ((-2, -1), (-2, 1), (-1, 2), (1, 2)))
FULL = (("leaf", 3), ("leaf", 1), ("ask", 2, 0, 1), ("leaf", 2), ("leaf", 0), ("ask", 2, 3, 4), ("ask", 1, 2, 5))
# In SHARED the question 3 is asked in one node only, behind the questions 1 and 2, which are equal.
SHARING = (4, ((-4, -3), (-4, 3), (-2, -1, 4), (-2, 1), (-1, 2), (1, 2, 4)))
SHARED = (("leaf", 1), ("leaf", 0), ("ask", 3, 0, 1), ("leaf", 5), ("ask", 4, 3, 2), ("leaf", 3), ("ask", 2, 4, 5), ("leaf", 4),
          ("leaf", 2), ("ask", 4, 8, 2), ("ask", 2, 7, 9), ("ask", 1, 6, 10))


def ways(graph, at=None, cube=()):
    """All pairs of a node and the answers of a way to it, without a look at what is right."""
    at = len(graph) - 1 if at is None else at
    yield at, cube
    if graph[at][0] == "ask":
        yield from ways(graph, graph[at][2], cube + (-graph[at][1],))
        yield from ways(graph, graph[at][3], cube + (graph[at][1],))


def is_plainly_right(formula, graph):
    """Whether a tuple of nodes of the right form is a right graph, by going all ways."""
    reached = set()
    for at, cube in ways(graph):
        reached.add(at)
        if len({abs(x) for x in cube}) < len(cube):
            return False
        if graph[at][0] == "leaf" and not oracles.is_false(formula[1][graph[at][1]], cube):
            return False
    return len(reached) == len(graph)


def plain_graph(tree):
    """The nodes of the different trees in a tree, by the words of the document."""
    order = []

    def walk(part):
        if part[0] == "ask":
            walk(part[2])
            walk(part[3])
        if part not in order:
            order.append(part)

    walk(tree)
    return tuple(part if part[0] == "leaf" else ("ask", part[1], order.index(part[2]), order.index(part[3])) for part in order)


def some_trees():
    source = random.Random(37)
    yield ONE, ("ask", 1, ("leaf", 1), ("leaf", 0))
    yield (0, ((),)), ("leaf", 0)
    yield (3, ((),)), ("ask", 1, ("ask", 2, ("leaf", 0), ("leaf", 0)), ("ask", 3, ("leaf", 0), ("ask", 2, ("leaf", 0), ("leaf", 0))))
    yield SHARING, tree_of_graph(SHARED)
    for formula in oracles.random_refutable(341, 60):
        for late in (0.0, 0.3, 0.8):
            yield formula, oracles.random_tree(source, formula, (), late)
    for formula in (chain_formula(6), pigeon_formula(3, 2), order_formula(4), parity_formula(3, [(0, 1), (1, 2), (0, 2)], [0])):
        yield formula, decide(formula, ("depth", formula[0]))[1]


def some_graphs():
    yield ONE, SMALL
    yield (0, ((),)), (("leaf", 0),)
    yield (3, ((),)), (("leaf", 0), ("ask", 1, 0, 0), ("ask", 2, 0, 1), ("ask", 3, 2, 2))
    yield (3, ((),)), (("leaf", 0), ("leaf", 0), ("ask", 2, 0, 1))
    yield ALL_TWO, FULL
    yield SHARING, SHARED
    for formula, tree in some_trees():
        yield formula, graph_of_tree(tree)
    source = random.Random(38)
    for formula in oracles.random_refutable(342, 60):
        yield formula, mixed(source, graph_of_tree(oracles.random_tree(source, formula, (), 0.3)))


def mixed(source, graph):
    """The graph with some nodes twice, where each of the two is used."""
    graph = list(graph)
    for _ in range(4):
        uses = [(at, place) for at, node in enumerate(graph) if node[0] == "ask" for place in (2, 3)]
        if not uses:
            break
        at, place = source.choice(uses)
        old = graph[at][place]
        if sum(node[0] == "ask" and old in node[2:] for node in graph) + (graph[at][2] == graph[at][3]) < 2:
            continue
        moved = [node if node[0] == "leaf" else node[:2] + tuple(b + (b >= at) for b in node[2:]) for node in graph]
        moved[at] = moved[at][:place] + (at,) + moved[at][place + 1:]
        graph = moved[:at] + [graph[old]] + moved[at:]
    return tuple(graph)


class IsQueryGraph(unittest.TestCase):
    def test_right_ones(self):
        count = 0
        for formula, graph in some_graphs():
            self.assertIs(is_formula(formula), True)
            self.assertTrue(is_plainly_right(formula, graph), graph)
            self.assertIs(is_query_graph(formula, graph), True, (formula, graph))
            count += 1
        self.assertGreater(count, 200)

    def test_wrong_forms(self):
        leaf, ask = ("leaf", 1), ("ask", 1, 0, 1)
        for graph in ((), [], list(SMALL), leaf, ask, (["leaf", 1], ("leaf", 0), ask), (leaf, ("leaf", 0), list(ask)), (leaf,), (leaf, leaf),
                      (("leaf", 2), ("leaf", 0), ask), (("leaf", -1), ("leaf", 0), ask), (("leaf", True), ("leaf", 0), ask),
                      (leaf, ("leaf", False), ask), (leaf, ("leaf", 0), ("ask", True, 0, 1)), (leaf, ("leaf", 0), ("ask", 1, False, True)),
                      (leaf, ("leaf", 0), ("ask", 1, 0, True)), (leaf, ("leaf", 0), ("ask", 1, -3, -2)), (leaf, ("leaf", 0), ("ask", 1, 0, -1)),
                      (leaf, ("leaf", 0), ("ask", 1, 0, 2)), (leaf, ("leaf", 0), ("ask", 1, 2, 1)), (leaf, ("leaf", 0), ("ask", 1, 0, 3)),
                      (leaf, ("leaf", 0), ("ask", 0, 0, 1)), (leaf, ("leaf", 0), ("ask", -1, 1, 0)), (leaf, ("leaf", 0), ("ask", 2, 0, 1)),
                      (leaf, ("leaf", 0), ("ask", 1, 0)), (leaf, ("leaf", 0), ("ask", 1, 0, 1, 1)), (leaf, ("leaf", 0), ("ask", 1)),
                      (leaf, ("leaf", 0), ("asks", 1, 0, 1)), (leaf, ("leaf", 0), ()), (leaf, ("leaf", 0), ("ask", 1, leaf, ("leaf", 0))),
                      (("leaf",), ("leaf", 0), ask), (("leaf", 1, 1), ("leaf", 0), ask), (leaf, ("leaf", 0), ("ask", (1,), 0, 1)),
                      (leaf, ("leaf", 0), ("ask", 1, 1, 0)), (leaf, ("leaf", 0), ("ask", 1, 0, 0)), (leaf, leaf, ask),
                      (leaf, ("leaf", 0), ("ask", 1, 0, None)), (leaf, ("leaf", 0), ("ask", "1", 0, 1)), (ask, leaf, ("leaf", 0)),
                      (leaf, ("leaf", 0), ("ask", 1.0, 0, 1)), (leaf, ("leaf", 0), ask, None), ("leaf", 1), (leaf, ask, ("leaf", 0))):
            self.assertIs(is_query_graph(ONE, graph), False, graph)
        self.assertIs(is_query_graph(ONE, SMALL), True)

    def test_nodes_that_cannot_be_reached(self):
        for graph in ((("leaf", 0),) + (("leaf", 1), ("leaf", 0), ("ask", 1, 1, 2)), SMALL[:2] + (("leaf", 0), ("ask", 1, 0, 1)),
                      SMALL + (("ask", 1, 0, 1),), SMALL + (("leaf", 0),)):
            self.assertIs(is_query_graph(ONE, graph), False, graph)
        formula = (2, ((),))
        self.assertIs(is_query_graph(formula, (("leaf", 0), ("ask", 1, 0, 0), ("ask", 2, 0, 1))), True)
        self.assertIs(is_query_graph(formula, (("leaf", 0), ("ask", 1, 0, 0), ("ask", 2, 0, 0))), False)
        self.assertIs(is_query_graph(formula, (("leaf", 0), ("leaf", 0), ("ask", 2, 1, 1))), False)
        self.assertIs(is_query_graph(formula, (("leaf", 0), ("leaf", 0))), False)

    def test_a_variable_asked_twice(self):
        formula = (3, ((),))
        once = (("leaf", 0), ("ask", 1, 0, 0), ("ask", 2, 0, 1), ("ask", 3, 1, 2))
        self.assertIs(is_query_graph(formula, once), True)
        # Only the way by 3, then 2, then 1 comes to 3 or 2 again.
        self.assertIs(is_query_graph(formula, (("leaf", 0), ("ask", 2, 0, 0), ("ask", 2, 0, 1), ("ask", 3, 1, 2))), False)
        self.assertIs(is_query_graph(formula, (("leaf", 0), ("ask", 3, 0, 0), ("ask", 2, 0, 1), ("ask", 3, 0, 2))), False)
        self.assertIs(is_query_graph(formula, (("leaf", 0), ("ask", 3, 0, 0), ("ask", 2, 0, 1), ("ask", 3, 2, 0))), False)
        # The same variable in nodes that no way has in common.
        self.assertIs(is_query_graph(formula, (("leaf", 0), ("ask", 1, 0, 0), ("ask", 1, 0, 0), ("ask", 3, 1, 2))), True)

    def test_every_way_to_a_leaf_counts(self):
        # The leaf of (1, 2) is reached with 1 false and 2 false on each way; then with 2 true on one of them.
        formula = (3, ((-2,), (-1,), (1, 2), (3,), (-3,)))
        formula = (3, tuple(sorted(formula[1])))
        at = {clause: ("leaf", index) for index, clause in enumerate(formula[1])}
        right = (at[(1, 2)], at[(-2,)], ("ask", 2, 0, 1), at[(-1,)], ("ask", 1, 2, 3), ("ask", 3, 4, 4))
        self.assertIs(is_query_graph(formula, right), True)
        for wrong in (right[:2] + (("ask", 2, 0, 0),) + right[3:], (at[(1, 2)], at[(-1,)], ("ask", 2, 0, 0), ("ask", 1, 2, 1))):
            self.assertIs(is_query_graph(formula, wrong), False)
        self.assertIs(is_query_graph(SHARING, SHARED), True)
        # The node that asks 3 falsifies its clauses only behind 4; here one of the ways to it does not ask 4.
        self.assertIs(is_query_graph(SHARING, SHARED[:9] + (("ask", 4, 2, 8),) + SHARED[10:]), False)
        self.assertIs(is_query_graph(SHARING, SHARED[:10] + (("ask", 2, 7, 2), ("ask", 1, 6, 10))), False)

    def test_any_value(self):
        for value in oracles.strange_values():
            for graph in (value, (value,), (("leaf", 1), value), SMALL[:2] + (value,), (value,) + SMALL[1:], SMALL + (value,),
                          SMALL[:2] + (("ask", value, 0, 1),), SMALL[:2] + (("ask", 1, value, 1),), SMALL[:2] + (("ask", 1, 0, value),),
                          (("leaf", value),) + SMALL[1:], (("leaf", 1), ("leaf", value), SMALL[2]), SMALL[:2] + ((value, 1, 0, 1),)):
                self.assertIs(is_query_graph(ONE, graph), repr(graph) == repr(SMALL), repr(graph))
            self.assertIs(is_query_graph((0, ((),)), (value,)), repr(value) == "('leaf', 0)")

    def test_graphs_with_many_ways(self):
        # Two to the power of 39 ways lead to the leaf.
        graph = (("leaf", 0),) + tuple(("ask", v, v - 1, v - 1) for v in range(1, 41))
        self.assertIs(is_query_graph((40, ((),)), graph), True)
        self.assertIs(is_query_graph((39, ((),)), graph), False)
        self.assertIs(is_query_graph((40, ((1,),)), graph), False)
        self.assertEqual(steps_of_graph((40, ((),)), graph), (("axiom", 0),))

    def test_against_all_ways(self):
        source = random.Random(39)
        count = 0
        for formula, graph in list(some_graphs())[6:]:
            for _ in range(6):
                at = source.randrange(len(graph))
                node = graph[at]
                if node[0] == "leaf":
                    node = ("leaf", source.randrange(len(formula[1])))
                else:
                    place = source.randint(1, 3)
                    value = source.randint(1, formula[0]) if place == 1 else source.randrange(at)
                    node = node[:place] + (value,) + node[place + 1:]
                other = graph[:at] + (node,) + graph[at + 1:]
                right = is_plainly_right(formula, other)
                count += not right
                self.assertIs(is_query_graph(formula, other), right, (formula, other))
        self.assertGreater(count, 300)


class GraphsAndTrees(unittest.TestCase):
    def test_examples(self):
        tree = ("ask", 1, ("leaf", 1), ("leaf", 0))
        self.assertEqual(graph_of_tree(tree), SMALL)
        self.assertEqual(tree_of_graph(SMALL), tree)
        self.assertEqual(graph_of_tree(("leaf", 7)), (("leaf", 7),))
        self.assertEqual(tree_of_graph((("leaf", 7),)), ("leaf", 7))

    def test_equal_parts(self):
        part = ("ask", 2, ("leaf", 0), ("leaf", 1))
        tree = ("ask", 1, ("ask", 3, part, ("leaf", 2)), ("ask", 4, ("leaf", 1), part))
        self.assertEqual(graph_of_tree(tree), (("leaf", 0), ("leaf", 1), ("ask", 2, 0, 1), ("leaf", 2), ("ask", 3, 2, 3), ("ask", 4, 1, 2),
                                               ("ask", 1, 4, 5)))
        tree = ("ask", 1, part, part)
        self.assertEqual(graph_of_tree(tree), (("leaf", 0), ("leaf", 1), ("ask", 2, 0, 1), ("ask", 1, 2, 2)))
        # The tree for false comes first also where the one for true is contained in it.
        tree = ("ask", 1, ("ask", 3, ("leaf", 2), part), ("leaf", 0))
        self.assertEqual(graph_of_tree(tree), (("leaf", 2), ("leaf", 0), ("leaf", 1), ("ask", 2, 1, 2), ("ask", 3, 0, 3), ("ask", 1, 4, 1)))
        # Nodes with exchanged answers, or with other variables, are different.
        tree = ("ask", 3, ("ask", 1, ("leaf", 0), ("leaf", 1)), ("ask", 1, ("leaf", 1), ("leaf", 0)))
        self.assertEqual(len(graph_of_tree(tree)), 5)
        tree = ("ask", 3, ("ask", 1, ("leaf", 0), ("leaf", 1)), ("ask", 2, ("leaf", 0), ("leaf", 1)))
        self.assertEqual(len(graph_of_tree(tree)), 5)

    def test_many(self):
        for formula, tree in some_trees():
            before = copy.deepcopy(tree)
            graph = graph_of_tree(tree)
            self.assertIs(type(graph), tuple)
            self.assertEqual(graph, plain_graph(tree))
            self.assertEqual(tree_of_graph(graph), tree)
            self.assertIs(is_query_graph(formula, graph), True)
            self.assertEqual(len(set(graph)), len(graph))
            self.assertEqual(tree, before)

    def test_graphs_to_trees(self):
        for formula, graph in some_graphs():
            tree = tree_of_graph(graph)
            self.assertIs(is_tree(formula, tree), True)
            self.assertLessEqual(len(graph_of_tree(tree)), len(graph))
            if formula[0] <= 6:
                for cube in oracles.assignments(formula[0]):
                    self.assertEqual(graph_leaf(graph, cube), find_leaf(tree, cube))

    def test_graph_leaf(self):
        self.assertEqual(graph_leaf((("leaf", 3),), ()), 3)
        self.assertEqual([graph_leaf(SMALL, cube) for cube in ((-1,), (1,))], [1, 0])
        self.assertEqual([graph_leaf(FULL, cube) for cube in ((-2, -1), (-1, 2), (-2, 1), (1, 2))], [3, 1, 2, 0])
        self.assertEqual(graph_leaf(SHARED, (-4, -3, -2, -1)), 5)
        self.assertEqual(graph_leaf(SHARED, (-3, -2, -1, 4)), 1)
        self.assertEqual(graph_leaf(SHARED, (1, 2, 3, 4)), 0)
        self.assertEqual(graph_leaf(SHARED, (-4, 1, 2, 3)), 2)


class GraphsAndSteps(unittest.TestCase):
    def regular_refutations(self):
        yield ONE, (("axiom", 1), ("axiom", 0), ("resolve", 0, 1, 1))
        yield (0, ((),)), (("axiom", 0),)
        yield ALL_TWO, (("axiom", 3), ("axiom", 1), ("resolve", 0, 1, 2), ("axiom", 2), ("axiom", 0), ("resolve", 3, 4, 2), ("resolve", 2, 5, 1))
        for formula, graph in some_graphs():
            yield formula, steps_of_graph(formula, graph)
        for formula, steps in oracles.random_refutations(343, 80):
            steps = strict_steps(formula, steps)
            if oracles.is_plainly_regular(steps):
                yield formula, steps
        for formula in oracles.random_refutable(344, 60, 5, 16, 4):
            steps = solve(formula)[1]
            yield formula, steps if oracles.is_plainly_regular(steps) else steps_of_tree(formula, decide(formula, ("depth", 5))[1])

    def test_examples(self):
        steps = (("axiom", 1), ("axiom", 0), ("resolve", 0, 1, 1))
        self.assertEqual(graph_of_steps(steps), SMALL)
        self.assertEqual(graph_of_steps((("axiom", 5),)), (("leaf", 5),))
        self.assertEqual(steps_of_graph(ONE, SMALL), steps)

    def test_graph_of_steps(self):
        shared = 0
        for formula, steps in self.regular_refutations():
            before = copy.deepcopy(steps)
            graph = graph_of_steps(steps)
            self.assertIs(type(graph), tuple)
            wanted = [("leaf", step[1]) if step[0] == "axiom" else ("ask", step[3], step[1], step[2]) for step in steps]
            self.assertEqual(graph, tuple(wanted))
            self.assertIs(is_query_graph(formula, graph), True, (formula, steps))
            self.assertTrue(is_plainly_right(formula, graph))
            self.assertEqual(steps, before)
            used = list(itertools.chain.from_iterable(step[1:3] for step in steps if step[0] == "resolve"))
            shared += len(used) > len(set(used))
        self.assertGreater(shared, 5)

    def check_steps(self, formula, graph):
        before = copy.deepcopy((formula, graph))
        steps = steps_of_graph(formula, graph)
        self.assertIs(type(steps), tuple)
        self.assertIs(is_refutation(formula, steps), True, (formula, graph))
        self.assertEqual(oracles.clauses_of_steps(formula, steps)[-1], ())
        self.assertTrue(all(step[0] in ("axiom", "resolve") for step in steps))
        self.assertIs(is_regular(steps), True)
        self.assertTrue(oracles.is_plainly_regular(steps))
        self.assertLessEqual(len(steps), len(graph))
        self.assertEqual(before, (formula, graph))
        return steps

    def test_steps_of_graph(self):
        for formula, graph in some_graphs():
            self.check_steps(formula, graph)

    def test_questions_that_are_not_needed(self):
        formula = (3, ((-1,), (1,)))
        graph = (("leaf", 1), ("leaf", 0), ("ask", 1, 0, 1), ("ask", 3, 2, 2), ("ask", 2, 3, 2))
        self.assertEqual(len(self.check_steps(formula, graph)), 3)
        graph = (("leaf", 1), ("leaf", 1), ("ask", 2, 0, 1), ("leaf", 0), ("ask", 3, 3, 3), ("ask", 1, 2, 4))
        self.assertEqual(len(self.check_steps(formula, graph)), 3)
        # The question 2 is needed on one of the ways only.
        formula = (2, ((-2,), (-1, 2), (1,)))
        graph = (("leaf", 2), ("leaf", 1), ("leaf", 0), ("ask", 2, 1, 2), ("ask", 1, 0, 3))
        self.assertEqual(len(self.check_steps(formula, graph)), 5)
        formula = (2, ((), (-2,), (-1, 2), (1,)))
        graph = (("leaf", 3), ("leaf", 2), ("leaf", 0), ("ask", 2, 1, 2), ("ask", 1, 0, 3))
        self.check_steps(formula, graph)

    def test_shared_nodes(self):
        self.assertEqual(len(self.check_steps(SHARING, SHARED)), len(SHARED))

    def test_there_and_back(self):
        for formula, steps in self.regular_refutations():
            self.assertEqual(pruned(steps), steps)
            self.assertEqual(steps_of_graph(formula, graph_of_steps(steps)), steps)
