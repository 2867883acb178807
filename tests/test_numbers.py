import random
import unittest

import oracles
from rebut.clauses import renamed, width_of_formula
from rebut.errors import BadQuestion, HasModel
from rebut.families import chain_formula, order_formula, parity_formula, pigeon_formula
from rebut.numbers import number_of, numbers
from rebut.papers import KINDS, check

ONE = (1, ((-1,), (1,)))
ALL_TWO = (2, ((-2, -1), (-2, 1), (-1, 2), (1, 2)))


class NumberOf(unittest.TestCase):
    def check_number(self, formula, kind, wanted=None):
        found = number_of(formula, kind)
        self.assertIs(type(found), tuple)
        k, paper, other = found
        if wanted is not None:
            self.assertEqual(k, wanted, (formula, kind))
        self.assertEqual(paper[0], "yes")
        self.assertIs(check(formula, (kind, k), paper), True)
        if k == 0:
            self.assertIsNone(other)
        else:
            self.assertEqual(other[0], "no")
            self.assertIs(check(formula, (kind, k - 1), other), True)

    def test_examples(self):
        for formula, row in ((ONE, (1, 1, 2, 1, 1, 1)), (ALL_TWO, (2, 2, 4, 2, 2, 2)), ((0, ((),)), (0, 0, 1, 0, 0, 0)),
                             ((3, ((), (1, 2, 3))), (0, 0, 1, 0, 0, 0)), (chain_formula(3), (2, 1, 4, 2, 2, 2))):
            for kind, wanted in zip(KINDS, row):
                self.check_number(formula, kind, wanted)

    def test_none_exactly_for_zero(self):
        self.assertIsNone(number_of((2, ((), (1,))), "depth")[2])
        self.assertEqual(number_of((2, ((), (1,))), "leaves")[0], 1)
        self.assertEqual(number_of((2, ((), (1,))), "leaves")[2][0], "no")

    def test_by_brute_force(self):
        for formula in list(oracles.all_formulas(1)) + list(oracles.all_formulas(2))[::5]:
            if not oracles.models(formula):
                for kind in KINDS:
                    self.check_number(formula, kind, oracles.least_number(formula, kind))
        for formula in oracles.random_refutable(231, 60, 3, 12):
            for kind in KINDS:
                self.check_number(formula, kind, oracles.least_number(formula, kind))

    def test_more_variables(self):
        for formula in list(oracles.random_refutable(232, 20, 5, 16, 4)) + [pigeon_formula(3, 2), order_formula(4)]:
            for kind in KINDS:
                self.check_number(formula, kind)

    def test_unknown_kinds(self):
        for kind in ("", "Depth", "depths", "size", "depth ", 0, None, True, ("depth",), ("depth", 0), ["depth"], b"depth",
                     KINDS, oracles.Raising()) + tuple(oracles.strange_values()):
            for formula in (ONE, (1, ()), (0, ((),)), (2, ((1, 2),))):
                with self.assertRaises(BadQuestion):
                    number_of(formula, kind)

    def test_models(self):
        for formula in ((0, ()), (1, ()), (2, ((1, 2),)), (40, ((1,), (40,)))):
            for kind in KINDS:
                with self.assertRaises(HasModel):
                    number_of(formula, kind)
            with self.assertRaises(HasModel):
                numbers(formula)


class Numbers(unittest.TestCase):
    def test_examples(self):
        self.assertEqual(numbers(ONE)["leaves"], 2)
        self.assertEqual(numbers(ONE), {"depth": 1, "rank": 1, "leaves": 2, "width": 1, "degree": 1, "static": 1})
        self.assertEqual(numbers(ALL_TWO), {"depth": 2, "rank": 2, "leaves": 4, "width": 2, "degree": 2, "static": 2})
        self.assertEqual(tuple(numbers(ONE)), KINDS)
        self.assertEqual(numbers((5, ((),))), {"depth": 0, "rank": 0, "leaves": 1, "width": 0, "degree": 0, "static": 0})

    def test_they_differ(self):
        found = numbers(chain_formula(7))
        self.assertEqual((found["depth"], found["rank"], found["leaves"], found["width"], found["degree"]), (3, 1, 8, 2, 2))
        self.assertEqual(found["static"], 3)

    def check_inequalities(self, formula):
        found = numbers(formula)
        self.assertEqual(list(found), list(KINDS))
        self.assertEqual(found, {kind: number_of(formula, kind)[0] for kind in KINDS})
        d, r, l, w, g, s = (found[kind] for kind in KINDS)
        f = width_of_formula(formula)
        self.assertTrue(r <= d <= formula[0])
        self.assertTrue(2 ** r <= l <= 2 ** d)
        self.assertTrue(w <= d and w <= f + r)
        self.assertTrue(g <= s <= d and g <= w + 1)
        return found

    def test_inequalities(self):
        for formula in (ONE, ALL_TWO, (0, ((),)), (3, ((), (1,))), chain_formula(5), pigeon_formula(3, 2), order_formula(3),
                        parity_formula(3, [(0, 1), (1, 2), (0, 2)], [0]), parity_formula(2, [(0, 1)] * 4, [1])):
            self.check_inequalities(formula)
        for formula in oracles.random_refutable(233, 60, 4, 14):
            self.check_inequalities(formula)
        for formula in oracles.random_refutable(234, 15, 5, 16, 4):
            self.check_inequalities(formula)

    def test_renaming(self):
        source = random.Random(24)
        for formula in oracles.random_refutable(235, 40, 4, 12):
            variables = list(range(1, formula[0] + 1))
            source.shuffle(variables)
            names = tuple(source.choice((v, -v)) for v in variables)
            self.assertEqual(numbers(renamed(formula, names)), numbers(formula))

    def test_new_dictionaries(self):
        found = numbers(ONE)
        found["depth"] = 7
        self.assertEqual(numbers(ONE)["depth"], 1)
