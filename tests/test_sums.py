import copy
import itertools
import random
import unittest

import oracles
from rebut.errors import BadFormula
from rebut.families import parity_formula
from rebut.sums import find_sum_leaf, implied, is_sum_tree, parity_sums, solvable, sum_depth, sums_of_tree
from rebut.trees import find_leaf, tree_depth

ONE = (1, ((-1,), (1,)))
SMALL = ("sum", (1,), ("leaf", 1), ("leaf", 0))
# 1 + 2, 2 + 3 and 1 + 3 cannot all be odd.
ODD = (3, ((-3, -2), (-3, -1), (-2, -1), (1, 2), (1, 3), (2, 3)))
PAIRS = ("sum", (1, 2), ("sum", (1,), ("leaf", 3), ("leaf", 2)),
         ("sum", (2, 3), ("sum", (2,), ("leaf", 5), ("leaf", 0)), ("sum", (1,), ("leaf", 4), ("leaf", 1))))


def is_odd(variables, cube):
    return len(set(variables) & set(cube)) % 2


def plain_leaf(tree, cube):
    """The leaf to which an assignment leads, with the questions on the way."""
    return tree if tree[0] == "leaf" else plain_leaf(tree[3] if is_odd(tree[1], cube) else tree[2], cube)


def is_plainly_right(formula, tree):
    """Whether a tree of the right form is right, by going along all ways with all assignments."""
    def goes(part, cubes):
        if part[0] == "leaf":
            return all(oracles.is_false(formula[1][part[1]], cube) for cube in cubes)
        odd = [cube for cube in cubes if is_odd(part[1], cube)]
        return goes(part[2], [cube for cube in cubes if cube not in odd]) and goes(part[3], odd)
    return goes(tree, list(oracles.assignments(formula[0])))


def random_sum_tree(source, formula, cubes=None, late=0.2):
    """A right sum tree of a formula without models, which may ask the same again."""
    cubes = list(oracles.assignments(formula[0])) if cubes is None else cubes
    good = [at for at, clause in enumerate(formula[1]) if all(oracles.is_false(clause, cube) for cube in cubes)]
    if good and source.random() > (late if cubes else 0.1):
        return ("leaf", source.choice(good))
    variables = tuple(sorted(source.sample(range(1, formula[0] + 1), source.randint(1, formula[0]))))
    odd = [cube for cube in cubes if is_odd(variables, cube)]
    even = [cube for cube in cubes if not is_odd(variables, cube)]
    return ("sum", variables, random_sum_tree(source, formula, even, late), random_sum_tree(source, formula, odd, late))


def sum_leaves(tree, way=()):
    """The pairs of a leaf and the places of the trees on the way to it."""
    if tree[0] == "leaf":
        return [(tree, way)]
    return sum_leaves(tree[2], way + (2,)) + sum_leaves(tree[3], way + (3,))


def replaced(tree, way, part):
    if not way:
        return part
    return tree[:way[0]] + (replaced(tree[way[0]], way[1:], part),) + tree[way[0] + 1:]


def equations_of(n):
    return [(row, parity) for size in range(n + 1) for row in itertools.combinations(range(1, n + 1), size) for parity in (0, 1)]


def satisfying(n, equations):
    return [cube for cube in oracles.assignments(n) if all(is_odd(row, cube) == parity for row, parity in equations)]


class IsSumTree(unittest.TestCase):
    def test_right_ones(self):
        for formula, tree in ((ONE, SMALL), (ODD, PAIRS), ((0, ((),)), ("leaf", 0)), ((3, ((), (1, 2))), ("sum", (1, 2, 3), ("leaf", 0), ("leaf", 0)))):
            self.assertTrue(is_plainly_right(formula, tree))
            self.assertIs(is_sum_tree(formula, tree), True, tree)

    def test_leaves_without_assignments(self):
        # The same sum twice: to the leaf in the middle no assignment leads, so it may have any clause that is there.
        for at in range(6):
            tree = ("sum", (1, 2), ("sum", (1, 2), PAIRS[2], ("leaf", at)), PAIRS[3])
            self.assertIs(is_sum_tree(ODD, tree), True)
            tree = ("sum", (1, 2), PAIRS[2], ("sum", (1, 2), ("leaf", at), PAIRS[3]))
            self.assertIs(is_sum_tree(ODD, tree), True)
            # 1 + 2 even, 2 + 3 even and 1 + 3 odd contradict each other.
            tree = ("sum", (1, 2), ("sum", (2, 3), ("sum", (1, 3), PAIRS[2], ("leaf", at)), PAIRS[2]), PAIRS[3])
            self.assertIs(is_sum_tree(ODD, tree), True)
            tree = ("sum", (1, 2), ("sum", (2, 3), ("sum", (1, 3), ("leaf", at), PAIRS[2]), PAIRS[2]), PAIRS[3])
            self.assertIs(is_sum_tree(ODD, tree), False)
        for leaf in (("leaf", 6), ("leaf", -1), ("leaf", True), ("leaf", None), ("leaf",), ("leaf", 0, 0), None, (), ("sum", (1,), ("leaf", 0))):
            tree = ("sum", (1, 2), ("sum", (1, 2), PAIRS[2], leaf), PAIRS[3])
            self.assertIs(is_sum_tree(ODD, tree), False)
        # More questions where nothing leads any longer.
        tree = ("sum", (1, 2), ("sum", (1, 2), PAIRS[2], ("sum", (3,), ("leaf", 0), ("sum", (1, 2, 3), ("leaf", 5), ("leaf", 1)))), PAIRS[3])
        self.assertIs(is_sum_tree(ODD, tree), True)

    def test_wrong_forms(self):
        leaves = (("leaf", 1), ("leaf", 0))
        for tree in (("leaf", 0), ("leaf", 1), ("leaf", 2), ("leaf", -1), ("sum", (1,)) + leaves[::-1], ("sum", (1,), leaves[0]), ("sum", (1,)),
                     ("sum",), ("leaf",), (), ("sum", (1,)) + leaves + (0,), ("sum", ()) + leaves, ("sum", 1) + leaves, ("sum", [1]) + leaves,
                     ("sum", (True,)) + leaves, ("sum", (-1,)) + leaves, ("sum", (0,)) + leaves, ("sum", (2,)) + leaves, ("sum", (1, 1)) + leaves,
                     ("sum", (1, 2)) + leaves, ("sum", (0, 1)) + leaves, ("sum", (1.0,)) + leaves, ("sum", ("1",)) + leaves, ("sum", None) + leaves,
                     ("ask", 1) + leaves, ("ask", (1,)) + leaves, ("sums", (1,)) + leaves, ["sum", (1,), *leaves], ("sum", (1,), ["leaf", 1], leaves[1]),
                     ("sum", (1,), ("leaf", True), ("leaf", False)), ("sum", (1,), None, leaves[1]), ("sum", (1,), SMALL), (SMALL,),
                     ("sum", "1") + leaves, ("sum", ((1,),)) + leaves, ("sum", (10 ** 20,)) + leaves, ("sum", (1,), leaves[0], ("leaf", 2))):
            self.assertIs(is_sum_tree(ONE, tree), False, tree)
        for formula in ((1, ((),)), (0, ((),))):
            self.assertIs(is_sum_tree(formula, ("sum", (), ("leaf", 0), ("leaf", 0))), False)
            self.assertIs(is_sum_tree(formula, ("sum", (1,), ("leaf", 0), ("leaf", 0))), formula[0] == 1)
        for variables in ((2, 1), (1, 2, 2), (1, 3, 2), (1, 4), (0, 2), (-1, 2), (True, 2), (1, 2, None), {1: 2}, "12", range(1, 3)):
            self.assertIs(is_sum_tree(ODD, ("sum", variables) + PAIRS[2:]), False, variables)
        self.assertIs(is_sum_tree(ODD, ("sum", (1, 2)) + PAIRS[2:]), True)

    def test_every_part_counts(self):
        for formula, tree in ((ODD, PAIRS), (ONE, SMALL)):
            for leaf, way in sum_leaves(tree):
                for at in range(len(formula[1])):
                    other = replaced(tree, way, ("leaf", at))
                    self.assertIs(is_sum_tree(formula, other), is_plainly_right(formula, other))
                    self.assertIs(is_sum_tree(formula, other), at == leaf[1])
        for variables in ((1,), (2,), (3,), (1, 3), (2, 3), (1, 2, 3)):
            tree = ("sum", variables) + PAIRS[2:]
            self.assertIs(is_sum_tree(ODD, tree), is_plainly_right(ODD, tree))
        self.assertIs(is_sum_tree((3, ODD[1][1:] + ((1, 2, 3),)), PAIRS), False)

    def test_any_value(self):
        for value in oracles.strange_values():
            for tree in (value, (value,), ("leaf", value), ("sum", value, ("leaf", 1), ("leaf", 0)), ("sum", (value,), ("leaf", 1), ("leaf", 0)),
                         ("sum", (1,), value, ("leaf", 0)), ("sum", (1,), ("leaf", 1), value), ("sum", (1,), value, value),
                         ("sum", (1, value), ("leaf", 1), ("leaf", 0)), (value, (1,), ("leaf", 1), ("leaf", 0))):
                self.assertIs(is_sum_tree(ONE, tree), repr(tree) == repr(SMALL), repr(tree))
            # No assignment leads to the value, but it has to be a tree.
            deep = ("sum", (1,), ("sum", (1,), ("leaf", 1), value), ("leaf", 0))
            self.assertIs(is_sum_tree(ONE, deep), repr(value) in ("('leaf', 0)", "('leaf', 1)"), repr(value))

    def test_deep_values(self):
        tree = ("leaf", 0)
        for v in range(190):
            tree = ("sum", (v % 3 + 1,), ("leaf", 0), tree)
        self.assertIs(is_sum_tree((3, ((),)), tree), True)
        self.assertIs(is_sum_tree((2, ((),)), tree), False)
        self.assertIs(is_sum_tree((3, ((1,),)), tree), False)
        self.assertEqual(sum_depth(tree), 190)

    def test_random(self):
        source = random.Random(51)
        wrong = 0
        for formula in oracles.random_refutable(401, 120, 4, 14):
            tree = random_sum_tree(source, formula)
            before = copy.deepcopy((formula, tree))
            self.assertTrue(is_plainly_right(formula, tree))
            self.assertIs(is_sum_tree(formula, tree), True, (formula, tree))
            for _, way in source.sample(sum_leaves(tree), min(8, len(sum_leaves(tree)))):
                other = replaced(tree, way, ("leaf", source.randrange(len(formula[1]))))
                right = is_plainly_right(formula, other)
                wrong += not right
                self.assertIs(is_sum_tree(formula, other), right, (formula, other))
            self.assertEqual(before, (formula, tree))
        self.assertGreater(wrong, 150)

    def test_none_for_formulas_with_models(self):
        source = random.Random(52)
        for formula in oracles.random_formulas(402, 60, 3, 6):
            if oracles.models(formula) and formula[1]:
                for tree in (("leaf", 0), ("sum", (1,), ("leaf", 0), ("leaf", len(formula[1]) - 1))):
                    self.assertIs(is_sum_tree(formula, tree), False)
                for _ in range(10):
                    tree = sums_of_tree(oracles.random_tree(source, (formula[0], ((),))))
                    for _, way in sum_leaves(tree):
                        tree = replaced(tree, way, ("leaf", source.randrange(len(formula[1]))))
                    self.assertIs(is_sum_tree(formula, tree), False)


class Measures(unittest.TestCase):
    def test_sum_depth(self):
        for tree, depth in ((("leaf", 3), 0), (SMALL, 1), (PAIRS, 3), (("sum", (1,), ("leaf", 0), SMALL), 2), (("sum", (1, 2), SMALL, ("leaf", 0)), 2)):
            self.assertEqual(sum_depth(tree), depth)

    def test_find_sum_leaf(self):
        self.assertEqual(find_sum_leaf(("leaf", 4), ()), 4)
        self.assertEqual([find_sum_leaf(SMALL, cube) for cube in ((-1,), (1,))], [1, 0])
        for cube, at in (((-3, -2, -1), 3), ((-3, 1, 2), 2), ((-3, -2, 1), 5), ((-2, 1, 3), 1), ((-3, -1, 2), 4), ((-1, 2, 3), 0)):
            self.assertEqual(find_sum_leaf(PAIRS, cube), at)
        source = random.Random(53)
        for formula in oracles.random_refutable(403, 60, 4, 12):
            tree = random_sum_tree(source, formula)
            self.assertEqual(sum_depth(tree), max(len(way) for _, way in sum_leaves(tree)))
            for cube in oracles.assignments(formula[0]):
                at = find_sum_leaf(tree, cube)
                self.assertEqual(("leaf", at), plain_leaf(tree, cube))
                self.assertTrue(oracles.is_false(formula[1][at], cube))


class SumsOfTree(unittest.TestCase):
    def test_examples(self):
        self.assertEqual(sums_of_tree(("ask", 1, ("leaf", 1), ("leaf", 0))), SMALL)
        self.assertEqual(sums_of_tree(("leaf", 7)), ("leaf", 7))
        self.assertEqual(sums_of_tree(("ask", 5, ("leaf", 1), ("ask", 3, ("leaf", 2), ("leaf", 0)))),
                         ("sum", (5,), ("leaf", 1), ("sum", (3,), ("leaf", 2), ("leaf", 0))))

    def test_random(self):
        source = random.Random(54)
        for formula in oracles.random_refutable(404, 80, 5, 14):
            tree = oracles.random_tree(source, formula)
            before = copy.deepcopy(tree)
            found = sums_of_tree(tree)
            self.assertIs(is_sum_tree(formula, found), True)
            self.assertEqual(sum_depth(found), tree_depth(tree))
            for cube in oracles.assignments(formula[0]):
                self.assertEqual(find_sum_leaf(found, cube), find_leaf(tree, cube))
            self.assertEqual(tree, before)


class Equations(unittest.TestCase):
    def test_examples(self):
        self.assertIs(implied([((1, 2), 1), ((2,), 1)], ((1,), 0)), True)
        self.assertIs(implied([((1, 2), 1), ((2,), 1)], ((1,), 1)), False)
        self.assertIs(solvable([((1, 2), 1), ((2,), 1)]), True)
        self.assertIs(solvable([((1, 2), 1), ((2,), 1), ((1,), 1)]), False)

    def test_the_empty_sum(self):
        self.assertIs(solvable([]), True)
        self.assertIs(solvable([((), 0)]), True)
        self.assertIs(solvable([((), 1)]), False)
        self.assertIs(solvable([((1,), 0), ((), 1)]), False)
        for equations in ([], [((), 0)], [((1,), 0)], [((1, 2), 1), ((3,), 0)]):
            self.assertIs(implied(equations, ((), 0)), True)
            self.assertIs(implied(equations, ((), 1)), False)

    def test_contradictions_imply_everything(self):
        for equations in ([((), 1)], [((1,), 0), ((1,), 1)], [((1, 2), 1), ((2, 3), 1), ((1, 3), 1)], [((5,), 1), ((1,), 0), ((1,), 1)],
                          [((), 0), ((), 1)]):
            self.assertIs(solvable(equations), False)
            for equation in equations_of(4) + [((40,), 0), ((40,), 1), ((7, 9), 1)]:
                self.assertIs(implied(equations, equation), True)

    def test_variables_without_equations(self):
        for equations in ([], [((1,), 1)], [((1, 2), 0), ((2, 3), 1)], [((40,), 1)]):
            for equation in (((4,), 0), ((4,), 1), ((5, 6), 0), ((5, 6), 1), ((1, 39), 1), ((39, 40), 0)):
                self.assertIs(implied(equations, equation), False)

    def test_one_variable_of_a_known_sum(self):
        self.assertIs(implied([((1, 2, 3), 1)], ((1,), 1)), False)
        self.assertIs(implied([((1, 2, 3), 1)], ((2, 3), 1)), False)
        self.assertIs(implied([((1, 2, 3), 1), ((2, 3), 1)], ((1,), 0)), True)
        self.assertIs(implied([((2, 3), 1), ((1, 2, 3), 1), ((2, 3), 1)], ((1,), 0)), True)
        chain = [((v, v + 1), 1) for v in range(1, 40)]
        self.assertIs(implied(chain, ((1, 40), 1)), True)
        self.assertIs(implied(chain, ((1, 39), 0)), True)
        self.assertIs(implied(chain, ((1, 40), 0)), False)
        self.assertIs(implied(chain[:20] + chain[21:], ((1, 40), 1)), False)
        self.assertIs(solvable(chain + [((1, 40), 0)]), False)

    def test_brute_force(self):
        every = equations_of(2)
        for size in range(4):
            for equations in itertools.product(every, repeat=size):
                cubes = satisfying(2, equations)
                self.assertIs(solvable(list(equations)), bool(cubes))
                for row, parity in every:
                    self.assertIs(implied(list(equations), (row, parity)), all(is_odd(row, cube) == parity for cube in cubes))
        source = random.Random(55)
        every = equations_of(5)
        for _ in range(300):
            equations = [source.choice(every) for _ in range(source.randint(0, 7))]
            cubes = satisfying(5, equations)
            self.assertIs(solvable(equations), bool(cubes))
            for row, parity in source.sample(every, 12):
                before = list(equations)
                self.assertIs(implied(equations, (row, parity)), all(is_odd(row, cube) == parity for cube in cubes))
                self.assertEqual(equations, before)


class ParitySums(unittest.TestCase):
    def test_examples(self):
        self.assertEqual(parity_sums(1, [], [0]), ("leaf", 0))
        self.assertIs(is_sum_tree(parity_formula(2, [(0, 1)], [0]), parity_sums(2, [(0, 1)], [0])), True)

    def test_bounds(self):
        for vertices, edges, odd in oracles.graphs():
            before = copy.deepcopy((edges, odd))
            formula = parity_formula(vertices, edges, odd)
            tree = parity_sums(vertices, edges, odd)
            self.assertIs(is_sum_tree(formula, tree), True, (vertices, edges, odd))
            if formula[0] <= 9:
                self.assertTrue(is_plainly_right(formula, tree))
            g = oracles.greatest_degree(vertices, edges) if vertices < 1000 else 1
            c = min(c for c in range(99) if 2 ** c >= vertices)
            self.assertLessEqual(sum_depth(tree), g + c, (vertices, edges, odd))
            self.assertEqual(before, (edges, odd))

    def test_wrong(self):
        for vertices, edges, odd in oracles.wrong_graphs():
            with self.assertRaises(BadFormula, msg=(vertices, edges, odd)):
                parity_sums(vertices, edges, odd)
