import copy
import itertools
import random
import unittest

import oracles
from rebut.clauses import restricted
from rebut.families import chain_formula, pigeon_formula
from rebut.resolution import is_refutation, step_width
from rebut.sides import circuit_value, common_variables, half, interpolant, side_formula
from rebut.solving import solve

ONE = (1, ((-1,), (1,)))
STEPS = (("axiom", 1), ("axiom", 0), ("resolve", 0, 1, 1))


def divisions(source, formula, count=4):
    indexes = range(len(formula[1]))
    yield ()
    yield tuple(indexes)
    for _ in range(count):
        yield tuple(at for at in indexes if source.random() < 0.5)


def plain_common(formula, division):
    sides = [set(), set()]
    for at, clause in enumerate(formula[1]):
        sides[0 if at in division else 1].update(abs(x) for x in clause)
    return sorted(sides[0] & sides[1]), sides


def cubes_of(variables):
    for signs in itertools.product((-1, 1), repeat=len(variables)):
        yield tuple(sorted(sign * v for sign, v in zip(signs, variables)))


class Sides(unittest.TestCase):
    def test_side_formula(self):
        formula = (3, ((-1,), (1, 2), (3,)))
        self.assertEqual(side_formula(formula, (0, 2), 1), (3, ((-1,), (3,))))
        self.assertEqual(side_formula(formula, (0, 2), 2), (3, ((1, 2),)))
        self.assertEqual(side_formula(formula, (), 1), (3, ()))
        self.assertEqual(side_formula(formula, (), 2), formula)
        self.assertEqual(side_formula(formula, (0, 1, 2), 1), formula)
        self.assertEqual(side_formula(formula, (0, 1, 2), 2), (3, ()))
        self.assertEqual(side_formula((0, ()), (), 1), (0, ()))

    def test_common_variables(self):
        formula = (5, ((-3, 1), (-2,), (2, 3), (4,)))
        self.assertEqual(common_variables(formula, (0,)), [3])
        self.assertEqual(common_variables(formula, (0, 1)), [2, 3])
        self.assertEqual(common_variables(formula, (1,)), [2])
        self.assertEqual(common_variables(formula, (3,)), [])
        self.assertEqual(common_variables(formula, ()), [])
        self.assertEqual(common_variables(formula, (0, 1, 2, 3)), [])
        source = random.Random(19)
        for formula in oracles.random_formulas(221, 60, 5, 8):
            for division in divisions(source, formula):
                self.assertEqual(common_variables(formula, division), plain_common(formula, division)[0])
                self.assertIs(type(common_variables(formula, division)), list)


class Circuits(unittest.TestCase):
    def test_values(self):
        self.assertIs(circuit_value((("false",),), ()), False)
        self.assertIs(circuit_value((("true",),), ()), True)
        pair = (("false",), ("true",))
        self.assertIs(circuit_value(pair + (("same", 0),), ()), False)
        self.assertIs(circuit_value(pair + (("same", 1),), ()), True)
        for a, b in itertools.product((0, 1), repeat=2):
            self.assertIs(circuit_value(pair + (("or", a, b),), (1,)), bool(a or b))
            self.assertIs(circuit_value(pair + (("and", a, b),), (1,)), bool(a and b))
            self.assertIs(circuit_value(pair + (("choose", 2, a, b),), (-2, 1)), bool(a))
            self.assertIs(circuit_value(pair + (("choose", 2, a, b),), (1, 2)), bool(b))
        self.assertIs(circuit_value(pair + (("true",), ("and", 0, 2), ("or", 3, 1), ("choose", 1, 3, 4)), (1,)), True)
        self.assertIs(circuit_value(pair + (("true",), ("and", 0, 2), ("or", 3, 1), ("choose", 1, 3, 4)), (-1,)), False)


class Interpolants(unittest.TestCase):
    def test_examples(self):
        self.assertEqual(interpolant(ONE, (0,), STEPS), (("true",), ("false",), ("choose", 1, 0, 1)))
        self.assertEqual(interpolant(ONE, (1,), STEPS), (("false",), ("true",), ("choose", 1, 0, 1)))
        self.assertEqual(interpolant(ONE, (), STEPS), (("true",), ("true",), ("and", 0, 1)))
        self.assertEqual(interpolant(ONE, (0, 1), STEPS), (("false",), ("false",), ("or", 0, 1)))

    def test_variables_in_no_clause(self):
        formula = (3, ((-1,), (1,)))
        steps = (("axiom", 1), ("weaken", 0, (1, 2)), ("weaken", 0, (-2, 1)), ("resolve", 1, 2, 2), ("axiom", 0),
                 ("resolve", 3, 4, 1))
        self.assertEqual(interpolant(formula, (0,), steps), (("true",), ("same", 0), ("same", 0), ("or", 1, 2),
                                                             ("false",), ("choose", 1, 3, 4)))

    def test_all_gates(self):
        formula = (3, ((-2, -1), (-2, 1), (-3, 2), (2, 3)))
        steps = (("axiom", 3), ("axiom", 2), ("resolve", 0, 1, 3), ("axiom", 1), ("axiom", 0), ("resolve", 3, 4, 1),
                 ("weaken", 5, (-3, -2)), ("resolve", 2, 5, 2))
        self.assertEqual(interpolant(formula, (0, 1), steps),
                         (("true",), ("true",), ("and", 0, 1), ("false",), ("false",), ("or", 3, 4), ("same", 5),
                          ("choose", 2, 2, 5)))
        self.assertEqual(interpolant(formula, (2, 3), steps),
                         (("false",), ("false",), ("or", 0, 1), ("true",), ("true",), ("and", 3, 4), ("same", 5),
                          ("choose", 2, 2, 5)))

    def test_against_the_words(self):
        source = random.Random(20)
        for formula, steps in oracles.random_refutations(222, 60):
            for division in divisions(source, formula):
                common, sides = plain_common(formula, division)
                wanted = []
                for step in steps:
                    if step[0] == "axiom":
                        wanted.append(("false",) if step[1] in division else ("true",))
                    elif step[0] == "weaken":
                        wanted.append(("same", step[1]))
                    elif step[3] in common:
                        wanted.append(("choose", step[3]) + step[1:3])
                    else:
                        wanted.append(("and" if step[3] in sides[1] else "or",) + step[1:3])
                self.assertEqual(interpolant(formula, division, steps), tuple(wanted))


class Halves(unittest.TestCase):
    def check_half(self, formula, division, steps):
        before = copy.deepcopy((formula, division, steps))
        circuit = interpolant(formula, division, steps)
        for cube in cubes_of(common_variables(formula, division)):
            value = circuit_value(circuit, cube)
            found = half(formula, division, steps, cube)
            self.assertIs(type(found), tuple)
            side, left = found
            self.assertEqual(side, 2 if value else 1)
            rest = restricted(side_formula(formula, division, side), cube)
            self.assertIs(is_refutation(rest, left), True, (formula, division, steps, cube))
            self.assertEqual(oracles.models(rest), [])
            self.assertLessEqual(len(left), len(steps))
            self.assertLessEqual(step_width(rest, left), step_width(formula, steps))
        self.assertEqual(before, (formula, division, steps))

    def test_examples(self):
        self.assertEqual(half(ONE, (0,), STEPS, (1,)), (1, (("axiom", 0),)))
        self.assertEqual(half(ONE, (0,), STEPS, (-1,)), (2, (("axiom", 0),)))
        self.assertEqual(half((0, ((),)), (), (("axiom", 0),), ()), (2, (("axiom", 0),)))
        self.assertEqual(half((0, ((),)), (0,), (("axiom", 0),), ()), (1, (("axiom", 0),)))

    def test_one_side_alone(self):
        for formula, steps in oracles.random_refutations(223, 30):
            self.check_half(formula, (), steps)
            self.check_half(formula, tuple(range(len(formula[1]))), steps)

    def test_variables_of_all_sorts(self):
        formula = (3, ((-2, -1), (-2, 1), (-3, 2), (2, 3)))
        steps = (("axiom", 3), ("axiom", 2), ("resolve", 0, 1, 3), ("axiom", 1), ("axiom", 0), ("resolve", 3, 4, 1),
                 ("weaken", 5, (-3, -2)), ("resolve", 2, 6, 2), ("weaken", 5, (-2,)), ("resolve", 2, 8, 2))
        for size in range(5):
            for division in itertools.combinations(range(4), size):
                self.check_half(formula, division, steps)
        weak = (3, ((-1,), (1,)))
        steps = (("axiom", 1), ("weaken", 0, (1, 2)), ("weaken", 0, (-2, 1)), ("resolve", 1, 2, 2), ("axiom", 0),
                 ("weaken", 4, (-3, -1)), ("weaken", 4, (-1, 3)), ("resolve", 6, 5, 3), ("resolve", 3, 7, 1))
        for division in ((), (0,), (1,), (0, 1)):
            self.check_half(weak, division, steps)

    def test_families(self):
        source = random.Random(21)
        for formula in (chain_formula(6), pigeon_formula(3, 2)):
            steps = solve(formula)[1]
            for division in divisions(source, formula, 8):
                self.check_half(formula, division, steps)

    def test_random(self):
        source = random.Random(22)
        for formula, steps in oracles.random_refutations(224, 120):
            for division in divisions(source, formula):
                self.check_half(formula, division, steps)

    def test_solved(self):
        source = random.Random(23)
        for formula in oracles.random_refutable(225, 80, 5, 16, 4):
            for division in divisions(source, formula):
                self.check_half(formula, division, solve(formula)[1])
