import copy
import itertools
import random
import unittest

import oracles
from rebut.families import chain_formula, parity_formula, pigeon_formula
from rebut.resolution import clauses_of, is_refutation, is_treelike
from rebut.solving import solve
from rebut.trees import find_leaf, is_tree, steps_of_tree, tree_depth, tree_leaves, tree_of_steps, tree_rank

ONE = (1, ((-1,), (1,)))
SMALL = ("ask", 1, ("leaf", 1), ("leaf", 0))
ALL_TWO = (2, ((-2, -1), (-2, 1), (-1, 2), (1, 2)))
FULL = ("ask", 1, ("ask", 2, ("leaf", 3), ("leaf", 1)), ("ask", 2, ("leaf", 2), ("leaf", 0)))
CHAIN = (3, ((-3,), (-2, 3), (-1, 2), (1,)))
COMB = ("ask", 1, ("leaf", 3), ("ask", 2, ("leaf", 2), ("ask", 3, ("leaf", 1), ("leaf", 0))))


def node_cubes(tree, cube=()):
    yield cube
    if tree[0] == "ask":
        yield from node_cubes(tree[2], cube + (-tree[1],))
        yield from node_cubes(tree[3], cube + (tree[1],))


class IsTree(unittest.TestCase):
    def test_right_ones(self):
        for formula, tree in ((ONE, SMALL), (ALL_TWO, FULL), (CHAIN, COMB), ((0, ((),)), ("leaf", 0)),
                              ((2, ((), (1,))), ("ask", 2, ("leaf", 0), ("ask", 1, ("leaf", 1), ("leaf", 0))))):
            self.assertIs(is_tree(formula, tree), True, tree)

    def test_wrong_ones(self):
        for tree in (("leaf", 0), ("leaf", 1), ("leaf", 2), ("leaf", -1), ("ask", 1, ("leaf", 0), ("leaf", 1)),
                     ("ask", 1, ("leaf", 1), ("leaf", 1)), ("ask", 1, ("leaf", 0), ("leaf", 0)),
                     ("ask", 1, ("leaf", 1), ("leaf", -2)), ("ask", 1, ("leaf", -1), ("leaf", 0)),
                     ("ask", 1, ("leaf", True), ("leaf", False)), ("ask", True, ("leaf", 1), ("leaf", 0)),
                     ("ask", -1, ("leaf", 0), ("leaf", 1)), ("ask", 0, ("leaf", 1), ("leaf", 0)),
                     ("ask", 2, SMALL, SMALL), ("ask", 1, SMALL, SMALL), ("ask", 1, ("leaf", 1), SMALL),
                     ("ask", 1, SMALL, ("leaf", 0)), ("ask", 1, ("leaf", 1)), ("ask", 1), ("ask",), ("leaf",), (),
                     ("ask", 1, ("leaf", 1), ("leaf", 0), 0), ("ask", 1, ("leaf", 1, 1), ("leaf", 0)),
                     ("asks", 1, ("leaf", 1), ("leaf", 0)), ("ask", 1, ("leaves", 1), ("leaf", 0)),
                     ["ask", 1, ("leaf", 1), ("leaf", 0)], ("ask", 1, ["leaf", 1], ("leaf", 0)),
                     (b"ask", 1, ("leaf", 1), ("leaf", 0)), ("ask", "1", ("leaf", 1), ("leaf", 0)),
                     ("ask", 1.0, ("leaf", 1), ("leaf", 0)), ("ask", 1, ("leaf", 1.0), ("leaf", 0)),
                     ("ask", (1,), ("leaf", 1), ("leaf", 0)), ("ask", 1, None, ("leaf", 0)), (SMALL,),
                     ("ask", 1, (("leaf", 1),), ("leaf", 0)), ("ask", None, ("leaf", 1), ("leaf", 0))):
            self.assertIs(is_tree(ONE, tree), False, tree)

    def test_every_part_counts(self):
        for changed in (("ask", 1, FULL[3], FULL[2]), ("ask", 2, FULL[2], FULL[3]), FULL[2],
                        ("ask", 1, ("ask", 2, ("leaf", 3), ("leaf", 3)), FULL[3]),
                        ("ask", 1, ("ask", 2, ("leaf", 1), ("leaf", 3)), FULL[3]),
                        ("ask", 1, FULL[2], ("ask", 2, ("leaf", 2), ("leaf", 1))),
                        ("ask", 1, FULL[2], ("ask", 1, ("leaf", 2), ("leaf", 0)))):
            self.assertIs(is_tree(ALL_TWO, changed), False, changed)
        # The cubes of the leaves are right, but a variable is asked twice on a way.
        formula = (2, ((),))
        self.assertIs(is_tree(formula, ("ask", 1, ("leaf", 0), ("ask", 2, ("leaf", 0), ("leaf", 0)))), True)
        self.assertIs(is_tree(formula, ("ask", 1, ("leaf", 0), ("ask", 1, ("leaf", 0), ("leaf", 0)))), False)
        self.assertIs(is_tree(formula, ("ask", 1, ("ask", 1, ("leaf", 0), ("leaf", 0)), ("leaf", 0))), False)
        self.assertIs(is_tree(formula, ("ask", 3, ("leaf", 0), ("leaf", 0))), False)

    def test_any_value(self):
        for value in oracles.strange_values():
            for tree in (value, ("leaf", value), ("ask", value, ("leaf", 1), ("leaf", 0)),
                         ("ask", 1, value, ("leaf", 0)), ("ask", 1, ("leaf", 1), value), (value, 1),
                         ("ask", 1, ("leaf", value), ("leaf", value))):
                right = repr(tree) == repr(SMALL)
                self.assertIs(is_tree(ONE, tree), right, repr(tree))
                if not right and repr(tree) != "('leaf', 0)":
                    self.assertIs(is_tree((0, ((),)), tree), False)

    def test_deep_values(self):
        tree = ("leaf", 0)
        for v in range(40, 0, -1):
            tree = ("ask", v, ("leaf", 0), tree)
        self.assertIs(is_tree((40, ((),)), tree), True)
        self.assertIs(is_tree((39, ((),)), tree), False)
        for v in range(41, 200):
            tree = ("ask", v, tree, tree)
        self.assertIs(is_tree((40, ((),)), tree), False)
        for v in range(200):
            tree = ("ask", 1, tree, tree)
        self.assertIs(is_tree((40, ((),)), tree), False)

    def test_random(self):
        source = random.Random(5)
        for formula in oracles.random_refutable(41, 100):
            tree = oracles.random_tree(source, formula)
            self.assertIs(is_tree(formula, tree), True)
            for cube, at in oracles.leaves(tree)[:6]:
                for other in range(len(formula[1])):
                    right = oracles.is_false(formula[1][other], cube)
                    self.assertIs(is_tree(formula, self.with_leaf(tree, cube, other)), right)

    def with_leaf(self, tree, cube, at):
        if not cube:
            return ("leaf", at)
        if cube[0] < 0:
            return ("ask", tree[1], self.with_leaf(tree[2], cube[1:], at), tree[3])
        return ("ask", tree[1], tree[2], self.with_leaf(tree[3], cube[1:], at))


class Measures(unittest.TestCase):
    def test_examples(self):
        for tree, depth, count, rank in ((("leaf", 0), 0, 1, 0), (SMALL, 1, 2, 1), (FULL, 2, 4, 2), (COMB, 3, 4, 1)):
            self.assertEqual((tree_depth(tree), tree_leaves(tree), tree_rank(tree)), (depth, count, rank))

    def test_ranks(self):
        self.assertEqual(tree_rank(("ask", 3, FULL, SMALL)), 2)
        self.assertEqual(tree_rank(("ask", 3, SMALL, FULL)), 2)
        self.assertEqual(tree_rank(("ask", 3, ("leaf", 0), FULL)), 2)
        self.assertEqual(tree_rank(("ask", 3, FULL, FULL)), 3)
        self.assertEqual(tree_rank(("ask", 4, ("ask", 3, FULL, SMALL), COMB)), 2)

    def test_find_leaf(self):
        self.assertEqual(find_leaf(("leaf", 4), ()), 4)
        self.assertEqual(find_leaf(("leaf", 4), (-1, 2)), 4)
        self.assertEqual([find_leaf(FULL, cube) for cube in ((-2, -1), (-1, 2), (-2, 1), (1, 2))], [3, 1, 2, 0])
        self.assertEqual(find_leaf(COMB, (-3, 1, 2)), 1)

    def test_random(self):
        source = random.Random(6)
        for formula in oracles.random_refutable(42, 60):
            tree = oracles.random_tree(source, formula, (), 0.5)
            ends = oracles.leaves(tree)
            self.assertEqual(tree_depth(tree), max(len(cube) for cube, _ in ends))
            self.assertEqual(tree_leaves(tree), len(ends))
            self.assertEqual(tree_rank(tree), self.rank(tree))
            for assignment in oracles.assignments(formula[0]):
                found = [at for cube, at in ends if set(cube) <= set(assignment)]
                self.assertEqual([find_leaf(tree, assignment)], found)

    def rank(self, tree):
        if tree[0] == "leaf":
            return 0
        low, high = sorted((self.rank(tree[2]), self.rank(tree[3])))
        return high + (low == high)


class StepsOfTree(unittest.TestCase):
    def check(self, formula, tree):
        steps = steps_of_tree(formula, tree)
        self.assertIs(type(steps), tuple)
        self.assertIs(is_refutation(formula, steps), True)
        self.assertIs(is_treelike(steps), True)
        self.assertNotIn("weaken", [step[0] for step in steps])
        self.assertLessEqual(len(steps), 2 * tree_leaves(tree) - 1)
        nodes = list(node_cubes(tree))
        for clause in clauses_of(formula, steps):
            self.assertTrue(any(oracles.is_false(clause, cube) for cube in nodes))

    def test_examples(self):
        self.check(ONE, SMALL)
        self.check(ALL_TWO, FULL)
        self.check(CHAIN, COMB)
        self.check((0, ((),)), ("leaf", 0))

    def test_questions_behind_a_false_clause(self):
        formula = (2, ((), (-1,), (1,)))
        self.check(formula, ("ask", 2, ("ask", 1, ("leaf", 2), ("leaf", 1)), ("leaf", 0)))
        self.check(formula, ("ask", 2, ("leaf", 0), ("ask", 1, ("leaf", 2), ("leaf", 0))))
        self.check(formula, ("ask", 1, ("ask", 2, ("leaf", 2), ("leaf", 0)), ("ask", 2, ("leaf", 1), ("leaf", 1))))
        self.assertLess(len(steps_of_tree((1, ((-1,), (1,))), SMALL)), 4)

    def test_random(self):
        source = random.Random(7)
        for formula in oracles.random_refutable(43, 80, 5, 16, 4):
            for late in (0, 0.3, 0.8):
                self.check(formula, oracles.random_tree(source, formula, (), late))

    def test_nothing_is_changed(self):
        formula, tree = copy.deepcopy((ALL_TWO, FULL))
        steps_of_tree(formula, tree)
        self.assertEqual((formula, tree), (ALL_TWO, FULL))


class TreeOfSteps(unittest.TestCase):
    def test_examples(self):
        steps = (("axiom", 1), ("axiom", 0), ("resolve", 0, 1, 1))
        self.assertEqual(tree_of_steps(ONE, steps), SMALL)
        self.assertEqual(tree_of_steps((0, ((),)), (("axiom", 0),)), ("leaf", 0))
        for formula, tree in ((ALL_TWO, FULL), (CHAIN, COMB), (ONE, SMALL)):
            self.assertEqual(tree_of_steps(formula, steps_of_tree(formula, tree)), tree)

    def test_weakened_and_answered(self):
        # At the step 8 the variable 2 is asked; at the step 2 below it, 2 was answered before.
        steps = (("axiom", 3), ("axiom", 1), ("resolve", 0, 1, 2), ("weaken", 2, (-2, 1)), ("axiom", 2), ("axiom", 0),
                 ("resolve", 4, 5, 2), ("weaken", 2, (1, 2)), ("resolve", 7, 3, 2), ("resolve", 8, 6, 1))
        self.assertEqual(tree_of_steps(ALL_TWO, steps), FULL)
        steps = (("axiom", 0), ("weaken", 0, (-1,)), ("weaken", 0, (1,)), ("resolve", 2, 1, 1), ("weaken", 3, ()))
        self.assertEqual(tree_of_steps((1, ((), (1,))), steps), ("ask", 1, ("leaf", 0), ("leaf", 0)))

    def test_random(self):
        for formula, steps in oracles.random_refutations(44, 100):
            tree = tree_of_steps(formula, steps)
            self.assertEqual(tree, self.plain(steps, len(steps) - 1, frozenset()))
            self.assertIs(is_tree(formula, tree), True)

    def test_solved_families(self):
        for formula in (chain_formula(12), pigeon_formula(4, 3), parity_formula(3, [(0, 1), (1, 2), (0, 2)], [1])):
            tree = tree_of_steps(formula, solve(formula)[1])
            self.assertIs(is_tree(formula, tree), True)
            self.assertIs(is_refutation(formula, steps_of_tree(formula, tree)), True)

    def test_long_weakening(self):
        steps = (("axiom", 0),) + tuple(("weaken", at, ()) for at in range(3000))
        self.assertEqual(tree_of_steps((1, ((),)), steps), ("leaf", 0))

    def test_exactly_without_models(self):
        clauses = oracles.cubes(1)
        for count in range(len(clauses) + 1):
            for rows in itertools.combinations(clauses, count):
                trees = [("leaf", i) for i in range(count)]
                trees += [("ask", 1, low, high) for low in list(trees) for high in list(trees)]
                right = [tree for tree in trees if is_tree((1, rows), tree)]
                self.assertEqual(bool(right), not oracles.models((1, rows)))

    def plain(self, steps, at, cube):
        step = steps[at]
        if step[0] == "axiom":
            return ("leaf", step[1])
        if step[0] == "weaken":
            return self.plain(steps, step[1], cube)
        v = step[3]
        if v in cube:
            return self.plain(steps, step[2], cube)
        if -v in cube:
            return self.plain(steps, step[1], cube)
        return ("ask", v, self.plain(steps, step[1], cube | {-v}), self.plain(steps, step[2], cube | {v}))
