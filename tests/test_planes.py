import random
import unittest

import oracles
from rebut.errors import BadFormula, WrongStep
from rebut.families import pigeon_formula
from rebut.planes import excludes, holds, inequalities_of, pigeon_cuts

ONE = (1, ((-1,), (1,)))
WRONG = [(), ("axiom",), ("axiom", 0, 0), ("axiom", 2), ("axiom", -1), ("axiom", True), ("axiom", False), ("axiom", "0"),
         ("axiom", None), ("axiom", (0,)), ("Axiom", 0), ("resolve", 0, 1, 1), ("weaken", 0, ()), ("",), (0, 0),
         ("low",), ("low", 1, 1), ("low", 0), ("low", -1), ("low", 2), ("low", 41), ("low", True), ("low", "1"),
         ("low", None), ("low", 1.0), ("low", (1,)), ("high",), ("high", 1, 1), ("high", 0), ("high", -1), ("high", 2),
         ("high", True), ("high", "1"), ("high", None), ("high", (1,)), ("add",), ("add", 0), ("add", 0, 1, 1),
         ("add", 0, 2), ("add", 2, 0), ("add", -1, 0), ("add", 0, -1), ("add", True, 0), ("add", 0, False),
         ("add", "0", 0), ("add", 0, None), ("times",), ("times", 0), ("times", 0, 1, 1), ("times", 2, 1),
         ("times", -1, 1), ("times", True, 1), ("times", None, 1), ("times", 0, 0), ("times", 0, -1), ("times", 0, -5),
         ("times", 0, True), ("times", 0, "2"), ("times", 0, None), ("times", 0, 2.0), ("times", 0, (2,)),
         ("divide",), ("divide", 0), ("divide", 0, 1, 1), ("divide", 2, 1), ("divide", -1, 1), ("divide", False, 1),
         ("divide", None, 1), ("divide", 0, 0), ("divide", 0, -1), ("divide", 0, 2), ("divide", 0, True),
         ("divide", 0, "1"), ("divide", 0, None), ("divide", 0, 1.0), ("divide", 0, 10 ** 30), (None, 0), (b"low", 1)]


def random_cuts(source, formula, length):
    n = formula[0]
    cuts = [("axiom", source.randrange(len(formula[1])))]
    while len(cuts) < length:
        at = source.randrange(len(cuts))
        cut = source.choice((("axiom", source.randrange(len(formula[1]))), ("low", source.randint(1, n)),
                             ("high", source.randint(1, n)), ("add", at, source.randrange(len(cuts))),
                             ("add", at, source.randrange(len(cuts))), ("times", at, source.randint(1, 4)),
                             ("divide", at, source.randint(1, 3)), ("divide", at, 2)))
        if cut[0] != "divide" or all(f % cut[2] == 0 for f in oracles.plain_inequalities(formula, cuts)[at][0]):
            cuts.append(cut)
    return tuple(cuts)


class Holds(unittest.TestCase):
    def test_examples(self):
        self.assertIs(holds(((1, -1), 0), (-2, -1)), True)
        self.assertIs(holds(((1, -1), 0), (-1, 2)), False)
        self.assertIs(holds(((1, -1), 0), (1, 2)), True)
        self.assertIs(holds(((1, -1), 1), (-2, 1)), True)
        self.assertIs(holds(((1, -1), 1), (1, 2)), False)
        self.assertIs(holds(((), 0), ()), True)
        self.assertIs(holds(((), 1), ()), False)
        self.assertIs(holds(((), -3), ()), True)
        self.assertIs(holds(((10 ** 40, -10 ** 40), 1), (1, 2)), False)
        self.assertIs(holds(((10 ** 40, 1 - 10 ** 40), 1), (1, 2)), True)

    def test_random(self):
        source = random.Random(9)
        for _ in range(300):
            n = source.randint(0, 4)
            factors = tuple(source.randint(-3, 3) for _ in range(n))
            bound = source.randint(-5, 5)
            for cube in oracles.assignments(n):
                total = sum(factors[x - 1] for x in cube if x > 0)
                self.assertIs(holds((factors, bound), cube), total >= bound)


class InequalitiesOf(unittest.TestCase):
    def test_examples(self):
        self.assertEqual(inequalities_of((2, ((-2, 1),)), (("axiom", 0), ("high", 1), ("add", 0, 1))),
                         [((1, -1), 0), ((-1, 0), -1), ((0, -1), -1)])
        self.assertEqual(inequalities_of(ONE, ()), [])
        self.assertEqual(inequalities_of((0, ((),)), (("axiom", 0), ("times", 0, 7), ("divide", 1, 2))),
                         [((), 1), ((), 7), ((), 4)])
        self.assertEqual(inequalities_of((3, ()), (("low", 2), ("high", 3), ("add", 0, 0))),
                         [((0, 1, 0), 0), ((0, 0, -1), -1), ((0, 2, 0), 0)])

    def test_bounds_are_rounded_up(self):
        formula = (2, ((-2, -1), (1, 2)))
        cuts = (("axiom", 1), ("times", 0, 6), ("divide", 1, 6), ("add", 0, 0), ("low", 1), ("add", 3, 4), ("add", 5, 4))
        known = inequalities_of(formula, cuts + (("divide", 6, 2), ("divide", 1, 3), ("divide", 3, 1)))
        self.assertEqual(known[2:4], [((1, 1), 1), ((2, 2), 2)])
        self.assertEqual(known[7:], [((2, 1), 1), ((2, 2), 2), ((2, 2), 2)])
        known = inequalities_of(formula, (("axiom", 0), ("axiom", 1), ("add", 0, 1), ("divide", 2, 5)))
        self.assertEqual(known, [((-1, -1), -1), ((1, 1), 1), ((0, 0), 0), ((0, 0), 0)])
        for bound, c, wanted in ((7, 2, 4), (6, 2, 3), (1, 2, 1), (1, 10 ** 30, 1), (-7, 2, -3), (-6, 2, -3), (-1, 2, 0),
                                 (-7, 10 ** 30, 0), (-10 ** 40, 10 ** 20, -10 ** 20), (10 ** 40 + 1, 10 ** 20, 10 ** 20 + 1)):
            if bound > 0:
                cuts = (("axiom", 0), ("times", 0, bound), ("divide", 1, c))
                known = inequalities_of((1, ((),)), cuts)
            else:
                # v and its negation give 0 >= -1 by `low` and `high`.
                cuts = (("low", 1), ("high", 1), ("add", 0, 1), ("times", 2, -bound), ("divide", 3, c))
                known = inequalities_of((1, ()), cuts)
            self.assertEqual(known[-2:], [((0,), bound), ((0,), wanted)])

    def test_great_integers(self):
        great = 10 ** 50
        cuts = (("axiom", 1), ("times", 0, great), ("add", 1, 0), ("divide", 1, great), ("divide", 2, great + 1))
        self.assertEqual(inequalities_of(ONE, cuts), [((1,), 1), ((great,), great), ((great + 1,), great + 1),
                                                      ((1,), 1), ((1,), 1)])

    def test_wrong_cuts(self):
        right = (("axiom", 0), ("axiom", 1))
        for bad in WRONG:
            for at in range(3):
                with self.assertRaises(WrongStep) as caught:
                    inequalities_of(ONE, right[:at] + (bad,) + right[at:] + (bad,))
                self.assertEqual(caught.exception.index, at, bad)
                self.assertIs(excludes(ONE, right[:at] + (bad,) + right[at:]), False)

    def test_divisors(self):
        formula = (2, ((1, 2),))
        cuts = (("axiom", 0), ("low", 1), ("add", 0, 1), ("times", 0, 6))
        for at, c, right in ((2, 2, False), (2, 1, True), (3, 2, True), (3, 3, True), (3, 6, True), (3, 4, False),
                             (3, 12, False), (0, 1, True), (0, 2, False)):
            if right:
                self.assertEqual(len(inequalities_of(formula, cuts + (("divide", at, c),))), 5)
                continue
            with self.assertRaises(WrongStep) as caught:
                inequalities_of(formula, cuts + (("divide", at, c),))
            self.assertEqual(caught.exception.index, 4)

    def test_strange_items(self):
        right = [repr(cut) for cut in (("axiom", 0), ("axiom", 1), ("low", 1), ("high", 1), ("add", 0, 0),
                                       ("times", 0, 1), ("times", 0, 10 ** 40), ("divide", 0, 1))]
        for value in oracles.strange_values():
            for cut in (value, (value,), ("axiom", value), ("low", value), ("high", value), ("add", 0, value),
                        ("add", value, 0), ("times", value, 1), ("times", 0, value), ("divide", value, 1),
                        ("divide", 0, value), (value, 0), (value, 0, 1)):
                with self.assertRaises(WrongStep) as caught:
                    inequalities_of(ONE, (("axiom", 0), cut, value))
                self.assertEqual(caught.exception.index, 2 if repr(cut) in right else 1, repr(cut))

    def test_random(self):
        source = random.Random(10)
        for formula in oracles.random_formulas(91, 100, 4, 6):
            if not formula[1]:
                continue
            cuts = random_cuts(source, formula, 14)
            known = inequalities_of(formula, cuts)
            self.assertEqual(known, oracles.plain_inequalities(formula, cuts))
            self.assertIs(type(known), list)
            for model in oracles.models(formula):
                self.assertTrue(all(holds(inequality, model) for inequality in known))
            for cube in oracles.assignments(formula[0]):
                for cut, inequality in zip(cuts, known):
                    if cut[0] == "axiom":
                        self.assertIs(holds(inequality, cube), oracles.is_true(formula[1][cut[1]], cube))
                    elif cut[0] in ("low", "high"):
                        self.assertIs(holds(inequality, cube), True)
            wanted = known[-1][1] >= 1 and not any(known[-1][0])
            self.assertIs(excludes(formula, cuts), wanted)
            known.append(None)
            self.assertEqual(len(inequalities_of(formula, cuts)), 14)


class Excludes(unittest.TestCase):
    def test_examples(self):
        row = (("axiom", 0), ("axiom", 1), ("add", 0, 1))
        self.assertIs(excludes(ONE, row), True)
        self.assertIs(excludes(ONE, row + (("times", 2, 5),)), True)
        self.assertIs(excludes(ONE, row + (("axiom", 0),)), False)
        self.assertIs(excludes(ONE, row[:2]), False)
        self.assertIs(excludes(ONE, ()), False)
        self.assertIs(excludes(ONE, list(row)), False)
        self.assertIs(excludes(ONE, row[:2] + (["add", 0, 1],)), False)
        self.assertIs(excludes((1, ()), (("low", 1), ("high", 1), ("add", 0, 1))), False)
        self.assertIs(excludes((0, ((),)), (("axiom", 0),)), True)
        self.assertIs(excludes((2, ((1,),)), (("axiom", 0),)), False)
        # All factors are 0, but the bound is not.
        self.assertIs(excludes((1, ()), (("low", 1), ("high", 1), ("add", 0, 1), ("divide", 2, 2))), False)

    def test_any_value(self):
        for value in oracles.strange_values():
            for formula in (ONE, (0, ()), (2, ((-1,), (2,)))):
                self.assertIs(excludes(formula, value), False, repr(value))
                self.assertIs(excludes(formula, (value,)), False)
                self.assertIs(excludes(formula, (("axiom", 0), value)), False)

    def test_no_model_is_excluded(self):
        source = random.Random(11)
        for formula in oracles.random_formulas(92, 150, 3, 5):
            if formula[1] and oracles.models(formula):
                self.assertIs(excludes(formula, random_cuts(source, formula, 20)), False)


class PigeonCuts(unittest.TestCase):
    def check_row(self, p, h):
        formula = pigeon_formula(p, h)
        cuts = pigeon_cuts(p, h)
        self.assertIs(type(cuts), tuple)
        self.assertLessEqual(len(cuts), 10 * p * p * h)
        self.assertIs(excludes(formula, cuts), True)
        factors, bound = oracles.plain_inequalities(formula, cuts)[-1]
        self.assertTrue(bound >= 1 and not any(factors))

    def test_all_small_ones(self):
        for p in range(-1, 9):
            for h in range(-1, 9):
                if p < 1 or h < 1 or p * h > 40 or p <= h:
                    with self.assertRaises(BadFormula):
                        pigeon_cuts(p, h)
                else:
                    self.check_row(p, h)

    def test_great_ones(self):
        for p, h in ((10, 4), (8, 5), (40, 1), (20, 2), (13, 3)):
            self.check_row(p, h)
        for p, h in ((41, 1), (21, 2), (11, 4), (9, 5), (7, 6), (10 ** 30, 1), (1, 10 ** 30), (0, -1), (-1, -2), (5, 5),
                     (1, 40), (1, 1)):
            with self.assertRaises(BadFormula):
                pigeon_cuts(p, h)
