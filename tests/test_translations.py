import copy
import itertools
import random
import unittest

import oracles
from rebut.calculus import refutes
from rebut.clauses import made_formula, renamed
from rebut.families import chain_formula, parity_formula, pigeon_formula
from rebut.papers import check, decide
from rebut.planes import excludes
from rebut.resolution import clauses_of, is_refutation, step_width
from rebut.solving import solve
from rebut.statics import is_static, static_degree
from rebut.tables import is_table, number_in
from rebut.translations import (cuts_of_steps, factors_of_tree, lines_of_factors, lines_of_steps, renamed_steps,
                                renamed_tree, shallow_tables)
from rebut.trees import is_tree, tree_depth
from rebut.widths import closed_of, family_of, is_family

ONE = (1, ((-1,), (1,)))
ALL_TWO = (2, ((-2, -1), (-2, 1), (-1, 2), (1, 2)))
STEPS = (("axiom", 1), ("axiom", 0), ("resolve", 0, 1, 1))
TREE = ("ask", 1, ("leaf", 1), ("leaf", 0))
# Refutes ALL_TWO with steps that are used twice, weakened, and not used at all.
MIXED = (("axiom", 3), ("axiom", 1), ("resolve", 0, 1, 2), ("weaken", 2, (-2, 1)), ("axiom", 2), ("axiom", 0),
         ("resolve", 4, 5, 2), ("weaken", 2, (1, 2)), ("resolve", 7, 3, 2), ("resolve", 8, 6, 1))


def refutations():
    """Pairs of formulas and refutations of many sorts."""
    yield ONE, STEPS
    yield (0, ((),)), (("axiom", 0),)
    yield (3, ((), (1, 2, 3))), (("axiom", 1), ("axiom", 0))
    yield (3, ((), (1, 2, 3))), (("axiom", 0), ("weaken", 0, (1,)), ("axiom", 0), ("weaken", 2, ()))
    yield (2, ((), (1,))), (("axiom", 0), ("axiom", 1), ("weaken", 0, ()))
    yield ALL_TWO, MIXED
    yield ONE, STEPS + (("axiom", 0), ("weaken", 2, ()))
    yield ONE, STEPS + STEPS[:2] + (("weaken", 2, (-1,)), ("resolve", 3, 5, 1))
    for formula in (chain_formula(6), pigeon_formula(3, 2), parity_formula(3, [(0, 1), (1, 2), (0, 2)], [0])):
        yield formula, solve(formula)[1]
    yield from oracles.random_refutations(201, 60)
    for formula in oracles.random_refutable(202, 40, 5, 16, 4):
        yield formula, solve(formula)[1]


def trees():
    """Pairs of formulas and right trees of many sorts."""
    yield ONE, TREE
    yield (0, ((),)), ("leaf", 0)
    yield (2, ((), (1,))), ("leaf", 0)
    yield (2, ((), (1,))), ("ask", 1, ("ask", 2, ("leaf", 1), ("leaf", 0)), ("leaf", 0))
    yield ONE[:1] + (((), (-1,), (1,)),), ("ask", 1, ("leaf", 2), ("leaf", 0))
    yield (3, ((-1,), (1,))), ("ask", 3, ("ask", 1, ("ask", 2, ("leaf", 1), ("leaf", 1)), ("leaf", 0)), TREE)
    source = random.Random(13)
    for formula in oracles.random_refutable(203, 60, 5, 14, 4):
        for late in (0.0, 0.3, 0.8):
            yield formula, oracles.random_tree(source, formula, (), late)
        yield formula, decide(formula, ("depth", 5))[1]


def names_for(source, n):
    """Names that exchange variables, and turn signs."""
    variables = list(range(1, n + 1))
    turned = tuple(source.choice((v, -v)) for v in variables)
    source.shuffle(variables)
    yield tuple(range(1, n + 1))
    yield turned
    yield tuple(variables)
    yield tuple(source.choice((v, -v)) for v in variables)
    yield tuple(-v for v in range(1, n + 1))


def names_back(names):
    back = {abs(name): v if name > 0 else -v for v, name in enumerate(names, start=1)}
    return tuple(back[v] for v in range(1, len(names) + 1))


class CutsOfSteps(unittest.TestCase):
    def test_examples(self):
        cuts = cuts_of_steps(ONE, STEPS)
        self.assertIs(excludes(ONE, cuts), True)
        self.assertEqual(cuts_of_steps((0, ((),)), (("axiom", 0),)), (("axiom", 0),))

    def test_many(self):
        for formula, steps in refutations():
            before = copy.deepcopy((formula, steps))
            cuts = cuts_of_steps(formula, steps)
            self.assertIs(type(cuts), tuple)
            self.assertIs(excludes(formula, cuts), True, (formula, steps))
            factors, bound = oracles.plain_inequalities(formula, cuts)[-1]
            self.assertTrue(bound >= 1 and not any(factors))
            self.assertLessEqual(len(cuts), len(steps) * (2 * formula[0] + 4))
            self.assertEqual(before, (formula, steps))


class LinesOfSteps(unittest.TestCase):
    def test_examples(self):
        self.assertIs(refutes(ONE, lines_of_steps(ONE, STEPS)), True)
        self.assertEqual(lines_of_steps((0, ((),)), (("axiom", 0),)), (("axiom", 0),))

    def test_many(self):
        for formula, steps in refutations():
            before = copy.deepcopy((formula, steps))
            lines = lines_of_steps(formula, steps)
            self.assertIs(type(lines), tuple)
            self.assertIs(refutes(formula, lines), True, (formula, steps))
            self.assertEqual(oracles.plain_polynomials(formula, lines)[-1], ((),))
            self.assertLessEqual(len(lines), len(steps) * (4 * formula[0] + 4))
            width = step_width(formula, steps)
            self.assertIs(check(formula, ("degree", width + 1), ("yes", lines)), True)
            self.assertEqual(before, (formula, steps))


class FactorsOfTree(unittest.TestCase):
    def test_examples(self):
        self.assertEqual(factors_of_tree(ONE, TREE), (((),), ((),)))
        self.assertEqual(factors_of_tree((2, ((), (1,))), ("leaf", 0)), (((),), ()))
        full = ("ask", 1, ("ask", 2, ("leaf", 3), ("leaf", 1)), ("ask", 2, ("leaf", 2), ("leaf", 0)))
        self.assertEqual(factors_of_tree(ALL_TWO, full), (((),),) * 4)
        comb = ("ask", 1, ("leaf", 2), ("ask", 2, ("leaf", 1), ("leaf", 0)))
        self.assertEqual(factors_of_tree((2, ((-2,), (-1, 2), (1,))), comb), (((1,),), ((),), ((),)))
        late = ("ask", 2, TREE, TREE)
        self.assertEqual(factors_of_tree((2, ONE[1]), late), (((),), ((),)))
        # The sum over several leaves of one clause, which may be 0.
        late = ("ask", 2, ("leaf", 0), ("leaf", 0))
        self.assertEqual(factors_of_tree((2, ((),)), late), (((),),))
        self.assertEqual(factors_of_tree((2, ((), (2,))), ("ask", 2, ("leaf", 1), ("leaf", 0))), (((2,),), ((),)))

    def test_many(self):
        for formula, tree in trees():
            factors = factors_of_tree(formula, tree)
            self.assertEqual(factors, self.plain(formula, tree))
            self.assertIs(type(factors), tuple)
            self.assertIs(is_static(formula, factors), True)
            self.assertLessEqual(static_degree(formula, factors), tree_depth(tree))
            self.assertIs(check(formula, ("static", tree_depth(tree)), ("yes", factors)), True)

    def plain(self, formula, tree):
        found = [frozenset() for _ in formula[1]]
        for cube, at in oracles.leaves(tree):
            product = frozenset([frozenset()])
            for x in cube:
                if -x not in formula[1][at]:
                    single = [frozenset([abs(x)])]
                    product = oracles.set_times(product, single if x > 0 else single + [frozenset()])
            found[at] ^= product
        return tuple(oracles.as_tuple(p) for p in found)


class LinesOfFactors(unittest.TestCase):
    def check_factors(self, formula, factors):
        k = static_degree(formula, factors)
        lines = lines_of_factors(formula, factors)
        self.assertIs(type(lines), tuple)
        self.assertIs(refutes(formula, lines), True)
        self.assertEqual(oracles.plain_polynomials(formula, lines)[-1], ((),))
        self.assertIs(check(formula, ("degree", k), ("yes", lines)), True)

    def test_examples(self):
        self.check_factors(ONE, (((),), ((),)))
        self.check_factors((2, ((), (1, 2))), (((),), ()))
        # Products that are 0, and variables that change nothing.
        self.check_factors((2, ((), (1, 2))), (((),), ((1,), (1, 2), (2,))))
        self.check_factors((2, ((), (1, 2))), (((),), ((1,),)))
        self.check_factors((2, ((-2, -1), (), (1,))), (((), (1,)), ((),), ()))
        self.check_factors((2, ((-2, -1), (), (1,))), (((1,), (1, 2)), ((),), ((1, 2),)))
        self.check_factors((1, ((-1,), (1,))), (((1,),), ((),)))
        self.check_factors((1, ((-1,), ())), (((1,),), ((), (1,))))

    def test_of_trees(self):
        for formula, tree in trees():
            self.check_factors(formula, factors_of_tree(formula, tree))

    def test_of_papers(self):
        source = random.Random(14)
        for formula in oracles.random_refutable(204, 60, 4, 12, 3):
            for k in range(5):
                answer, factors = decide(formula, ("static", k))
                if answer == "yes":
                    self.check_factors(formula, factors)
                    # Anything that the clause makes 0 may be added.
                    other = []
                    for p, clause in zip(factors, formula[1]):
                        extra = {m for m in oracles.monomials(formula[0])
                                 if any(v in clause for v in m) and source.random() < 0.3}
                        other.append(tuple(sorted(set(p) ^ extra)))
                    self.assertIs(is_static(formula, tuple(other)), True)
                    self.check_factors(formula, tuple(other))

    def test_all_of_one_variable(self):
        every = [row for size in range(3) for row in itertools.combinations(oracles.monomials(1), size)]
        for formula in oracles.all_formulas(1):
            for factors in itertools.product(every, repeat=len(formula[1])):
                if is_static(formula, factors):
                    self.check_factors(formula, factors)


class ShallowTables(unittest.TestCase):
    def test_examples(self):
        self.assertEqual(shallow_tables((1, ()), 0, ((), (-1,), (1,))), (((), 1),))
        self.assertEqual(shallow_tables((1, ()), 0, ((), (1,))), (((), 1),))
        self.assertEqual(shallow_tables((1, ((1,),)), 1, ((), (1,))), (((), 2), ((1,), 1)))
        self.assertEqual(shallow_tables((0, ()), 4, ((),)), (((), 5),))

    def check_family(self, formula, k, family):
        self.assertIs(is_family(formula, k, family), True)
        table = shallow_tables(formula, k, family)
        self.assertEqual(table, tuple((cube, k + 1 - len(cube)) for cube in family if len(cube) <= k))
        self.assertIs(is_table(formula, "depth", table), True)
        self.assertGreater(number_in("depth", table, ()), k)
        self.assertIs(check(formula, ("depth", k), ("no", table)), True)

    def test_many(self):
        for formula in list(oracles.random_formulas(205, 80, 4, 10, 3)) + list(oracles.random_refutable(206, 60, 4, 12, 3)):
            widest = max((len(clause) for clause in formula[1]), default=0)
            for k in range(widest, formula[0] + 2):
                answer, closed = decide(formula, ("width", k))
                if answer == "no":
                    self.check_family(formula, k, family_of(formula, k, closed))
                    family = family_of(formula, k, closed)
                    self.check_family(formula, k, family_of(formula, k, closed_of(formula, k, family)))
            for model in oracles.models(formula)[:2]:
                for k in range(widest, widest + 3):
                    family = tuple(cube for cube in oracles.cubes(formula[0]) if set(cube) <= set(model) and len(cube) <= k + 1)
                    self.check_family(formula, k, family)


class RenamedSteps(unittest.TestCase):
    def test_examples(self):
        self.assertEqual(renamed_steps(ONE, (1,), STEPS), STEPS)
        self.assertEqual(renamed_steps(ONE, (-1,), STEPS), (("axiom", 0), ("axiom", 1), ("resolve", 1, 0, 1)))
        formula = made_formula(3, [[1], [-1, 2], [-2]])
        steps = (("axiom", 2), ("weaken", 0, (-3, 1)), ("axiom", 1), ("resolve", 0, 2, 1), ("axiom", 0),
                 ("resolve", 3, 4, 2))
        names = (3, -1, 2)
        self.assertEqual(renamed(formula, names), (3, ((-3, -1), (1,), (3,))))
        self.assertEqual(renamed_steps(formula, names, steps),
                         (("axiom", 2), ("weaken", 0, (-2, 3)), ("axiom", 0), ("resolve", 0, 2, 3), ("axiom", 1),
                          ("resolve", 4, 3, 1)))

    def test_many(self):
        source = random.Random(15)
        for formula, steps in refutations():
            for names in names_for(source, formula[0]):
                other = renamed(formula, names)
                moved = renamed_steps(formula, names, steps)
                self.assertIs(is_refutation(other, moved), True)
                wanted = [tuple(sorted(names[x - 1] if x > 0 else -names[-x - 1] for x in clause))
                          for clause in clauses_of(formula, steps)]
                self.assertEqual(clauses_of(other, moved), wanted)
                self.assertEqual([step[0] for step in moved], [step[0] for step in steps])
                self.assertEqual(renamed_steps(other, names_back(names), moved), steps)


class RenamedTree(unittest.TestCase):
    def test_examples(self):
        self.assertEqual(renamed_tree(ONE, (1,), TREE), TREE)
        self.assertEqual(renamed_tree(ONE, (-1,), TREE), TREE)
        comb = ("ask", 1, ("leaf", 2), ("ask", 2, ("leaf", 1), ("leaf", 0)))
        formula = (2, ((-2,), (-1, 2), (1,)))
        self.assertEqual(renamed(formula, (-2, 1)), (2, ((-2,), (-1,), (1, 2))))
        self.assertEqual(renamed_tree(formula, (-2, 1), comb),
                         ("ask", 2, ("ask", 1, ("leaf", 2), ("leaf", 1)), ("leaf", 0)))

    def test_many(self):
        source = random.Random(16)
        for formula, tree in trees():
            for names in names_for(source, formula[0]):
                other = renamed(formula, names)
                moved = renamed_tree(formula, names, tree)
                self.assertIs(is_tree(other, moved), True)
                self.assertEqual(renamed_tree(other, names_back(names), moved), tree)
                wanted = sorted((sorted(names[x - 1] if x > 0 else -names[-x - 1] for x in cube),
                                 sorted(names[x - 1] if x > 0 else -names[-x - 1] for x in formula[1][at]))
                                for cube, at in oracles.leaves(tree))
                found = sorted((sorted(cube), list(other[1][at])) for cube, at in oracles.leaves(moved))
                self.assertEqual(found, wanted)
