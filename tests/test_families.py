import copy
import itertools
import unittest

import oracles
from rebut.clauses import is_formula
from rebut.errors import BadFormula
from rebut.families import chain_formula, order_formula, parity_formula, pebble_formula, pigeon_formula


class Families(unittest.TestCase):
    def bad(self, function, *arguments):
        with self.assertRaises(BadFormula, msg=(function.__name__, arguments)):
            function(*arguments)

    def same(self, formula, n, clauses):
        self.assertTrue(is_formula(formula))
        self.assertEqual(formula, (n, tuple(sorted(set(clauses)))))


class Chain(Families):
    def test_example(self):
        self.assertEqual(chain_formula(2), (2, ((-2,), (-1, 2), (1,))))
        self.assertEqual(chain_formula(1), (1, ((-1,), (1,))))

    def test_all(self):
        for n in range(1, 41):
            self.same(chain_formula(n), n, [(1,), (-n,)] + [(-i, i + 1) for i in range(1, n)])
        for n in range(1, 9):
            self.assertEqual(oracles.models(chain_formula(n)), [])

    def test_wrong(self):
        for n in (0, -1, 41, 10 ** 20, -10 ** 20):
            self.bad(chain_formula, n)


class Pigeon(Families):
    def test_example(self):
        self.assertEqual(pigeon_formula(2, 1), (2, ((-2, -1), (1,), (2,))))
        self.assertEqual(pigeon_formula(1, 1), (1, ((1,),)))

    def test_all(self):
        for p in range(1, 41):
            for h in range(1, 40 // p + 1):
                x = {(i, j): (i - 1) * h + j for i in range(1, p + 1) for j in range(1, h + 1)}
                clauses = [tuple(x[i, j] for j in range(1, h + 1)) for i in range(1, p + 1)]
                clauses += [(-x[k, j], -x[i, j]) for j in range(1, h + 1)
                            for i, k in itertools.combinations(range(1, p + 1), 2)]
                self.same(pigeon_formula(p, h), p * h, clauses)
                if p * h <= 9:
                    self.assertEqual(bool(oracles.models(pigeon_formula(p, h))), p <= h)

    def test_wrong(self):
        for p, h in ((0, 1), (1, 0), (-1, -1), (0, 0), (-2, 3), (41, 1), (1, 41), (7, 6), (21, 2), (10 ** 10, 10 ** 10),
                     (0, 10 ** 9), (-3, -4)):
            self.bad(pigeon_formula, p, h)


class Parity(Families):
    def test_example(self):
        self.assertEqual(parity_formula(2, [(0, 1)], [0]), (1, ((-1,), (1,))))

    def test_edges(self):
        self.assertEqual(parity_formula(1, [], []), (0, ()))
        self.assertEqual(parity_formula(1, [], [0]), (0, ((),)))
        self.assertEqual(parity_formula(3, [(0, 1)], [2]), (1, ((), (-1,))))
        self.assertEqual(parity_formula(3, [(0, 2)], [2, 0, 2, 2]), (1, ((1,),)))
        self.assertEqual(parity_formula(2, [(0, 1), (0, 1)], []), (2, ((-2, 1), (-1, 2))))
        self.assertEqual(parity_formula(2, [(0, 1), (0, 1)], [0]), (2, ((-2, -1), (-2, 1), (-1, 2), (1, 2))))
        self.assertEqual(parity_formula(10 ** 12, [], [10 ** 12 - 1]), (0, ((),)))
        self.assertEqual(parity_formula(41, [(k, k + 1) for k in range(40)], [])[0], 40)

    def test_against_all_assignments(self):
        graphs = [(2, [(0, 1)] * 3), (3, [(0, 1), (1, 2), (0, 2)]), (4, [(0, 1), (0, 1), (1, 2)]),
                  (4, [(0, 3), (1, 3), (2, 3)]), (3, [(1, 2)]), (4, [(0, 1), (0, 2), (0, 3), (1, 2), (1, 3), (2, 3)])]
        for vertices, edges in graphs:
            for count in range(vertices + 1):
                for odd in itertools.combinations(range(vertices), count):
                    formula = parity_formula(vertices, edges, list(odd))
                    self.assertTrue(is_formula(formula))
                    self.assertEqual(formula[0], len(edges))
                    self.check(formula, vertices, edges, odd)

    def check(self, formula, vertices, edges, odd):
        good = oracles.models(formula)
        wanted = []
        for cube in oracles.assignments(len(edges)):
            counts = [0] * vertices
            for k, edge in enumerate(edges):
                if k + 1 in cube:
                    counts[edge[0]] += 1
                    counts[edge[1]] += 1
            if all(counts[v] % 2 == (v in odd) for v in range(vertices)):
                wanted.append(cube)
        self.assertEqual(good, wanted)
        if len(odd) % 2:
            self.assertEqual(good, [])
        widths = {len([e for e in edges if v in e]) for v in range(vertices)}
        self.assertTrue({len(clause) for clause in formula[1]} <= widths)

    def test_wrong(self):
        for arguments in ((0, [], []), (-1, [], []), (2, [(1, 0)], []), (2, [(0, 0)], []), (2, [(0, 2)], []),
                          (2, [(-1, 0)], []), (2, [(-1, 1)], []), (2, [(0, 1)], [2]), (2, [(0, 1)], [-1]),
                          (2, [(0, 1)] * 41, []), (3, [(0, 1), (2, 1)], [0]), (1, [(0, 1)], []), (1, [], [1]),
                          (2, [(0, 1), (0, 1), (1, 1)], []), (3, [(2, 3)], []), (0, [], [0])):
            self.bad(parity_formula, *arguments)

    def test_nothing_is_changed(self):
        edges, odd = [(0, 1), (1, 2), (0, 1)], [2, 0, 2]
        parity_formula(3, edges, odd)
        self.assertEqual((edges, odd), ([(0, 1), (1, 2), (0, 1)], [2, 0, 2]))


class Order(Families):
    def test_example(self):
        self.assertEqual(order_formula(1), (0, ((),)))
        self.assertEqual(order_formula(2), (1, ((-1,), (1,))))

    def wanted(self, n):
        pairs = list(itertools.combinations(range(1, n + 1), 2))
        x = {}
        for at, (i, j) in enumerate(pairs):
            x[i, j], x[j, i] = at + 1, -at - 1
        clauses = [tuple(sorted((-x[i, j], -x[j, k], -x[k, i]))) for i, j, k in
                   itertools.permutations(range(1, n + 1), 3)]
        clauses += [tuple(sorted(x[j, i] for j in range(1, n + 1) if j != i)) for i in range(1, n + 1)]
        return tuple(sorted(set(clauses)))

    def test_three(self):
        # The variable 1 is for the pair 1 2, the variable 2 for 1 3, and the variable 3 for 2 3.
        self.same(order_formula(3), 3, [(-3, -1, 2), (-2, 1, 3), (-2, -1), (-3, 1), (2, 3)])

    def test_all(self):
        for n in range(1, 10):
            formula = order_formula(n)
            self.assertTrue(is_formula(formula))
            self.assertEqual(formula, (n * (n - 1) // 2, self.wanted(n)))
            if n <= 5:
                self.assertEqual(oracles.models(formula), [])

    def test_wrong(self):
        for n in (0, -1, -9, 10, 11, 10 ** 12):
            self.bad(order_formula, n)


class Pebble(Families):
    def test_examples(self):
        self.assertEqual(pebble_formula([[]]), (1, ((-1,), (1,))))
        self.assertEqual(pebble_formula([[], [], [1, 2]]), (3, ((-3,), (-2, -1, 3), (1,), (2,))))
        self.assertEqual(pebble_formula([[], [1, 1, 1]]), (2, ((-2,), (-1, 2), (1,))))
        self.assertEqual(pebble_formula([[], []]), (2, ((-2,), (1,), (2,))))
        self.assertEqual(pebble_formula([[]] * 40)[0], 40)

    def test_no_models(self):
        for second in ([], [1], [1, 1]):
            for third in ([], [1], [2], [2, 1], [1, 2, 1]):
                for fourth in ([], [3], [1, 3], [3, 2, 1]):
                    rows = [[], second, third, fourth]
                    formula = pebble_formula(rows)
                    self.same(formula, 4, [(-4,)] + [tuple(sorted({k + 1} | {-v for v in row}))
                                                     for k, row in enumerate(rows)])
                    self.assertEqual(oracles.models(formula), [])

    def test_wrong(self):
        for rows in ([], [[1]], [[0]], [[-1]], [[], [2]], [[], [1, 2]], [[], [0]], [[], [1], [3]], [[], [1, -1]],
                     [[]] * 41, [[], [1, 10 ** 9]]):
            self.bad(pebble_formula, rows)

    def test_nothing_is_changed(self):
        rows = [[], [1, 1], [2, 1]]
        before = copy.deepcopy(rows)
        pebble_formula(rows)
        self.assertEqual(rows, before)
