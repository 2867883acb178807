import copy
import itertools
import random
import unittest

import oracles
from rebut.calculus import refutes
from rebut.errors import BadFormula
from rebut.families import chain_formula, order_formula, parity_formula, pebble_formula
from rebut.known import chain_steps, chain_tree, order_steps, parity_lines, pebble_steps
from rebut.papers import check
from rebut.resolution import is_refutation
from rebut.trees import is_tree

ONE = (1, ((-1,), (1,)))


class Known(unittest.TestCase):
    def check_steps(self, formula, steps, most_steps, most_width=None):
        """Follows the steps by the words of the document."""
        self.assertIs(type(steps), tuple)
        clauses = oracles.clauses_of_steps(formula, steps)
        self.assertIsNotNone(clauses)
        self.assertEqual(clauses[-1], ())
        self.assertIs(is_refutation(formula, steps), True)
        self.assertLessEqual(len(steps), most_steps)
        if most_width is not None:
            self.assertLessEqual(max(len(clause) for clause in clauses), most_width)

    def bad(self, function, *arguments):
        before = copy.deepcopy(arguments)
        with self.assertRaises(BadFormula, msg=(function.__name__, arguments)):
            function(*arguments)
        self.assertEqual(arguments, before)


class Chains(Known):
    def test_examples(self):
        self.assertEqual(chain_tree(1), ("ask", 1, ("leaf", 1), ("leaf", 0)))
        self.check_steps(ONE, chain_steps(1), 3, 1)

    def test_trees(self):
        for n in range(1, 41):
            tree = chain_tree(n)
            self.assertIs(is_tree(chain_formula(n), tree), True)
            cubes = [cube for cube, _ in oracles.leaves(tree)]
            self.assertEqual(len(cubes), n + 1)
            c = min(c for c in range(9) if 2 ** c >= n + 1)
            self.assertEqual(max(len(cube) for cube in cubes), c)
            self.assertEqual(sorted(at for _, at in oracles.leaves(tree)), list(range(n + 1)))

    def test_steps(self):
        for n in range(1, 41):
            self.check_steps(chain_formula(n), chain_steps(n), 2 * n + 1, 2)

    def test_wrong(self):
        for n in (-1, 0, 41, -40, 10 ** 20):
            self.bad(chain_tree, n)
            self.bad(chain_steps, n)


class Pebbles(Known):
    def check_rows(self, rows):
        before = copy.deepcopy(rows)
        steps = pebble_steps(rows)
        sizes = [len(set(row)) for row in rows]
        self.check_steps(pebble_formula(rows), steps, 2 * sum(sizes) + 2 * len(rows) + 2, 1 + max(sizes))
        self.assertEqual(rows, before)

    def test_examples(self):
        self.check_steps(ONE, pebble_steps([[]]), 4, 1)
        self.check_rows([[]])

    def test_rows_of_all_sorts(self):
        for rows in ([[], []], [[], [1]], [[], [1, 1, 1]], [[], [], [2, 1, 2, 1, 1]], [[], [1], [1, 2], [3, 1, 2, 3]], [[], [], [], []],
                     [[], [1], [], [3, 1], [4, 4], []], [list(range(1, k)) for k in range(1, 41)], [[1] * 9 if k else [] for k in range(40)],
                     [[k] if k else [] for k in range(40)], [[] for _ in range(40)], [[], [], [1, 2], [2, 1], [3, 4], [4, 3, 3], [5, 6]]):
            self.check_rows(rows)

    def test_random(self):
        source = random.Random(57)
        for _ in range(150):
            count = source.randint(1, 12)
            self.check_rows([[source.randint(1, k) for _ in range(source.randint(0, 5))] if k else [] for k in range(count)])

    def test_wrong(self):
        for rows in ([], [[1]], [[0]], [[], [2]], [[], [0]], [[], [-1]], [[], [1, 3], []], [[], [1], [1, 2, 3]], [[] for _ in range(41)],
                     [[], [1, 10 ** 20]], [[], [1, -10 ** 20]]):
            self.bad(pebble_steps, rows)


class Orders(Known):
    def test_steps(self):
        for n in range(1, 10):
            self.check_steps(order_formula(n), order_steps(n), n * n * n + n + 1)
        self.assertEqual(order_steps(1), (("axiom", 0),))

    def test_wrong(self):
        for n in (-1, 0, 10, 11, 41, -9, 10 ** 20):
            self.bad(order_steps, n)


class Parities(Known):
    def test_examples(self):
        self.assertEqual(parity_lines(1, [], [0]), (("axiom", 0),))
        lines = parity_lines(2, [(0, 1)], [0])
        self.assertEqual(oracles.plain_polynomials(ONE, lines)[-1], ((),))

    def test_bounds(self):
        for vertices, edges, odd in oracles.graphs():
            before = copy.deepcopy((edges, odd))
            formula = parity_formula(vertices, edges, odd)
            lines = parity_lines(vertices, edges, odd)
            self.assertIs(type(lines), tuple)
            self.assertIs(refutes(formula, lines), True, (vertices, edges, odd))
            found = oracles.plain_polynomials(formula, lines)
            self.assertEqual(found[-1], ((),))
            g = oracles.greatest_degree(vertices, edges) if vertices < 1000 else 1
            self.assertLessEqual(max(len(monomial) for p in found for monomial in p), max(g, 1))
            self.assertIs(check(formula, ("degree", max(g, 1)), ("yes", lines)), True)
            self.assertLessEqual(len(lines), vertices * (2 ** g + 2))
            self.assertEqual(before, (edges, odd))

    def test_vertices_with_the_same_edges(self):
        # Both vertices have the same variables, so the clauses of both are all there are.
        for odd in ([0], [1]):
            formula = parity_formula(2, [(0, 1)] * 3, odd)
            self.assertEqual(len(formula[1]), 8)
            self.assertIs(refutes(formula, parity_lines(2, [(0, 1)] * 3, odd)), True)
        # The vertices 0 and 1 have the same clauses; the sum of both is 0.
        formula = parity_formula(3, [(0, 1), (0, 1)], [2])
        self.assertIs(refutes(formula, parity_lines(3, [(0, 1), (0, 1)], [2])), True)

    def test_all_small_graphs(self):
        pairs = list(itertools.combinations(range(3), 2))
        for size in range(4):
            for edges in itertools.product(pairs, repeat=size):
                for count in (1, 3):
                    for odd in itertools.combinations(range(3), count):
                        formula = parity_formula(3, list(edges), list(odd))
                        lines = parity_lines(3, list(edges), list(odd))
                        g = oracles.greatest_degree(3, edges)
                        self.assertIs(check(formula, ("degree", max(g, 1)), ("yes", lines)), True)
                        self.assertLessEqual(len(lines), 3 * (2 ** g + 2))

    def test_wrong(self):
        for vertices, edges, odd in oracles.wrong_graphs():
            self.bad(parity_lines, vertices, edges, odd)
