import copy
import itertools
import random
import unittest

import oracles
from rebut.clauses import made_formula, renamed, width_of_formula
from rebut.families import chain_formula, order_formula, parity_formula, pigeon_formula
from rebut.narrowing import narrow_steps
from rebut.papers import check, decide
from rebut.resolution import is_refutation, step_width
from rebut.translations import renamed_tree
from rebut.trees import is_tree, tree_rank

ONE = (1, ((-1,), (1,)))
ALL_TWO = (2, ((-2, -1), (-2, 1), (-1, 2), (1, 2)))


class NarrowSteps(unittest.TestCase):
    def check_tree(self, formula, tree):
        self.assertIs(is_tree(formula, tree), True)
        before = copy.deepcopy((formula, tree))
        steps = narrow_steps(formula, tree)
        self.assertIs(type(steps), tuple)
        self.assertIs(is_refutation(formula, steps), True)
        known = oracles.clauses_of_steps(formula, steps)
        self.assertEqual(known[-1], ())
        most = width_of_formula(formula) + tree_rank(tree)
        self.assertLessEqual(max(len(clause) for clause in known), most)
        self.assertLessEqual(step_width(formula, steps), most)
        self.assertIs(check(formula, ("width", most), ("yes", steps)), True)
        self.assertEqual(before, (formula, tree))

    def test_leaves(self):
        self.assertEqual(narrow_steps((0, ((),)), ("leaf", 0)), (("axiom", 0),))
        self.check_tree((2, ((), (1, 2))), ("leaf", 0))

    def test_equal_parts(self):
        small = ("ask", 1, ("leaf", 1), ("leaf", 0))
        self.check_tree(ONE, small)
        full = ("ask", 1, ("ask", 2, ("leaf", 3), ("leaf", 1)), ("ask", 2, ("leaf", 2), ("leaf", 0)))
        self.check_tree(ALL_TWO, full)

    def test_parts_of_different_rank(self):
        for n in range(1, 8):
            formula = chain_formula(n)
            places = {clause: at for at, clause in enumerate(formula[1])}
            first = ("leaf", places[(-n,)])
            last = ("leaf", places[(1,)])
            down, up = first, last
            for v in range(n - 1, 0, -1):
                down = ("ask", v + 1, ("leaf", places[(-v, v + 1)]), down)
            for v in range(1, n):
                up = ("ask", v, up, ("leaf", places[(-v, v + 1)]))
            self.check_tree(formula, ("ask", 1, last, down))
            self.check_tree(formula, ("ask", n, up, first))
            self.assertEqual(tree_rank(("ask", 1, last, down)), 1)
            self.assertLessEqual(step_width(formula, narrow_steps(formula, ("ask", n, up, first))), 3)

    def test_the_smaller_rank_comes_first(self):
        # All of 1 to 6 are true; 7 says so of the first two, 8 of the first three, and so on; but 11 is false.
        rows = [[v] for v in range(1, 7)] + [[-1, -2, 7]] + [[-v, 4 - v, v + 1] for v in range(7, 11)] + [[-11]]
        formula = made_formula(11, rows)
        places = {clause: at for at, clause in enumerate(formula[1])}
        tree = ("leaf", places[(-11,)])
        for v, row in zip(range(11, 0, -1), reversed(rows[:-1])):
            tree = ("ask", v, ("leaf", places[tuple(sorted(row))]), tree)
        self.check_tree(formula, tree)
        names = tuple(-v for v in range(1, 12))
        self.check_tree(renamed(formula, names), renamed_tree(formula, names, tree))

    def test_questions_behind_a_false_clause(self):
        small = ("ask", 1, ("leaf", 1), ("leaf", 0))
        formula = (3, ((-1,), (1,)))
        self.check_tree(formula, ("ask", 3, ("ask", 2, small, small), small))
        self.check_tree(formula, ("ask", 1, ("ask", 2, ("leaf", 1), ("ask", 3, ("leaf", 1), ("leaf", 1))), ("leaf", 0)))
        self.check_tree((3, ((), (-1,), (1,))), ("ask", 1, ("ask", 2, ("leaf", 2), ("leaf", 0)), ("leaf", 1)))

    def test_wide_clauses(self):
        rows = [list(row) for row in itertools.product((-1, 1), (-2, 2), (-3, 3), (-4, 4))]
        formula = made_formula(4, rows)
        source = random.Random(17)
        for _ in range(20):
            self.check_tree(formula, oracles.random_tree(source, formula, (), 0))
        for formula in oracles.random_refutable(211, 40, 5, 16, 5):
            self.check_tree(formula, oracles.random_tree(source, formula, (), 0.2))

    def test_best_trees(self):
        formulas = [order_formula(3), order_formula(4), pigeon_formula(3, 2), parity_formula(3, [(0, 1), (1, 2), (0, 2)], [1]),
                    chain_formula(6)] + list(oracles.random_refutable(212, 60, 5, 12, 3))
        for formula in formulas:
            for kind in ("rank", "depth", "leaves"):
                self.check_tree(formula, decide(formula, (kind, 100))[1])

    def test_random_trees(self):
        source = random.Random(18)
        for formula in oracles.random_refutable(213, 120, 5, 12, 3):
            for late in (0.0, 0.2, 0.7):
                self.check_tree(formula, oracles.random_tree(source, formula, (), late))
