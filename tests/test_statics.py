import itertools
import random
import unittest

import oracles
from rebut.papers import check, decide
from rebut.statics import is_balance, is_static, static_degree

ONE = (1, ((-1,), (1,)))
ALL_TWO = (2, ((-2, -1), (-2, 1), (-1, 2), (1, 2)))
WRONG_POLYNOMIALS = [[], [()], ([],), ((1, 1),), ((2, 1),), ((1,), ()), ((), ()), ((0,),), ((-1,),), ((3,),), ((True,),),
                     ((1.0,),), (("1",),), (1,), 1, 0, "", "1", None, True, {}, {()}, ((), None), (((1,),),)]


def plain_static(formula, value):
    total = frozenset()
    for p, clause in zip(value, formula[1]):
        total ^= oracles.set_times(oracles.as_set(p), oracles.set_of_clause(clause))
    return len(value) == len(formula[1]) and total == frozenset([frozenset()])


def plain_balance(formula, k, value):
    if list(value) != sorted(set(value)) or () not in value or any(len(monomial) > k for monomial in value):
        return False
    inside = oracles.as_set(value)
    return all(len(product & inside) % 2 == 0 for product in oracles.static_products(formula, k))


class IsStatic(unittest.TestCase):
    def test_examples(self):
        self.assertIs(is_static(ONE, (((),), ((),))), True)
        self.assertIs(is_static(ONE, ((), ((),))), False)
        self.assertIs(is_static(ONE, (((),), ())), False)
        self.assertIs(is_static(ONE, ((), ())), False)
        self.assertIs(is_static((1, ((), (1,))), (((),), ())), True)
        self.assertIs(is_static((1, ((), (1,))), (((), (1,)), ((1,),))), False)
        self.assertIs(is_static((1, ((), (1,))), (((), (1,)), ())), False)
        self.assertIs(is_static(ALL_TWO, (((),),) * 4), True)
        self.assertIs(is_static((0, ((),)), (((),),)), True)

    def test_numbers_of_polynomials(self):
        self.assertIs(is_static(ONE, (((),),)), False)
        self.assertIs(is_static(ONE, (((),), ((),), ())), False)
        self.assertIs(is_static(ONE, (((),), ((),), ((),))), False)
        self.assertIs(is_static(ONE, ()), False)
        self.assertIs(is_static((1, ((), (1,))), (((),),)), False)
        self.assertIs(is_static((0, ()), ()), False)
        self.assertIs(is_static((3, ()), ()), False)
        self.assertIs(is_static((3, ()), (((),),)), False)

    def test_products_that_vanish(self):
        formula = (2, ((), (1, 2)))
        self.assertIs(is_static(formula, (((),), ((1,), (1, 2), (2,)))), True)
        self.assertEqual(static_degree(formula, (((),), ((1,), (1, 2), (2,)))), 0)

    def test_wrong_polynomials(self):
        for bad in WRONG_POLYNOMIALS:
            self.assertIs(is_static((2, ((), (1, 2))), (((),), bad)), False, bad)
            self.assertIs(is_static((2, ((), (1, 2))), (bad, ())), False, bad)
        self.assertIs(is_static(ONE, [((),), ((),)]), False)
        self.assertIs(is_static(ONE, ([()], ((),))), False)

    def test_any_value(self):
        for value in oracles.strange_values():
            for formula in (ONE, (0, ()), (2, ((-1,), (2,)))):
                self.assertIs(is_static(formula, value), False, repr(value))
                self.assertIs(is_static(formula, (value,)), False)
                self.assertIs(is_static(formula, (value, ((),))), False)
            self.assertIs(is_static((1, ((), (1,))), (((),), value)), repr(value) in ("()", "((1,),)"), repr(value))

    def test_against_the_words(self):
        source = random.Random(6)
        for formula in oracles.random_formulas(81, 150, 3, 4, 2):
            for _ in range(10):
                value = tuple(tuple(m for m in oracles.monomials(formula[0]) if source.random() < 0.4)
                              for _ in formula[1])
                self.assertIs(is_static(formula, value), plain_static(formula, value))

    def test_all_of_one_variable(self):
        every = [row for size in range(3) for row in itertools.combinations(oracles.monomials(1), size)]
        for formula in oracles.all_formulas(1):
            found = []
            for value in itertools.product(every, repeat=len(formula[1])):
                self.assertIs(is_static(formula, value), plain_static(formula, value))
                if is_static(formula, value):
                    found.append(static_degree(formula, value))
            self.assertEqual(found == [], bool(oracles.models(formula)))
            if found:
                self.assertEqual(min(found), oracles.least_static(formula))


class StaticDegree(unittest.TestCase):
    def test_degrees(self):
        self.assertEqual(static_degree(ONE, (((),), ((),))), 1)
        self.assertEqual(static_degree(ONE, ((), ())), -1)
        self.assertEqual(static_degree((0, ()), ()), -1)
        self.assertEqual(static_degree((0, ((),)), (((),),)), 0)
        self.assertEqual(static_degree((0, ((),)), ((),)), -1)
        self.assertEqual(static_degree(ALL_TWO, (((),), (), (), ())), 2)
        self.assertEqual(static_degree((3, ((-2, 1),)), (((2,),),)), 2)
        self.assertEqual(static_degree((3, ((-2, 1),)), (((2, 3),),)), 3)
        self.assertEqual(static_degree((3, ((-2, 1),)), (((), (2, 3)),)), 3)
        # A product that is 0 has the degree -1.
        self.assertEqual(static_degree((3, ((-2, 1),)), (((1,),),)), -1)
        self.assertEqual(static_degree((3, ((-2, 1),)), (((1, 2, 3), (3,)),)), 3)
        # Each product counts by itself, also where all of them together are of a lesser degree.
        self.assertEqual(static_degree((1, ((),)), (((), (1,)),)), 1)

    def test_random(self):
        source = random.Random(7)
        for formula in oracles.random_formulas(82, 150, 4, 4, 3):
            value = tuple(tuple(m for m in oracles.monomials(formula[0]) if source.random() < 0.3) for _ in formula[1])
            degrees = [oracles.set_degree(oracles.set_times([frozenset(m)], oracles.set_of_clause(clause)))
                       for p, clause in zip(value, formula[1]) for m in p]
            self.assertEqual(static_degree(formula, value), max(degrees, default=-1))

    def test_as_a_paper(self):
        paper = ("yes", (((),), ((),)))
        self.assertIs(check(ONE, ("static", 0), paper), False)
        self.assertIs(check(ONE, ("static", 1), paper), True)
        wide = ("yes", (((), (2,)), ((), (2,)), ((2,),)))
        formula = (2, ((-1,), (1,), ()))
        self.assertIs(is_static(formula, wide[1]), True)
        self.assertIs(check(formula, ("static", 1), wide), False)
        self.assertIs(check(formula, ("static", 2), wide), True)


class IsBalance(unittest.TestCase):
    def test_examples(self):
        self.assertIs(is_balance(ONE, 0, ((),)), True)
        self.assertIs(is_balance(ONE, 1, ((),)), False)
        self.assertIs(is_balance(ONE, 1, ((), (1,))), False)
        self.assertIs(is_balance((1, ((1,),)), 1, ((), (1,))), True)
        self.assertIs(is_balance((1, ((1,),)), 1, ((),)), False)
        self.assertIs(is_balance((1, ((-1,),)), 1, ((),)), True)
        self.assertIs(is_balance((1, ((-1,),)), 1, ((), (1,))), False)
        self.assertIs(is_balance((0, ()), 0, ((),)), True)
        self.assertIs(is_balance((0, ()), 10 ** 20, ((),)), True)
        self.assertIs(is_balance((0, ((),)), 0, ((),)), False)
        self.assertIs(check(ONE, ("static", 0), ("no", ((),))), True)

    def test_conditions(self):
        free = (2, ())
        self.assertIs(is_balance(free, 1, ((), (1,), (2,))), True)
        self.assertIs(is_balance(free, 1, ((1,), (2,))), False)
        self.assertIs(is_balance(free, 1, ()), False)
        self.assertIs(is_balance(free, 1, ((), (1, 2))), False)
        self.assertIs(is_balance(free, 2, ((), (1, 2))), True)
        self.assertIs(is_balance(free, 0, ((), (1,))), False)
        self.assertIs(is_balance(free, 1, ((), (2,), (1,))), False)
        self.assertIs(is_balance(free, 1, ((1,), ())), False)
        self.assertIs(is_balance(free, 1, ((), ())), False)
        self.assertIs(is_balance(free, 1, ((), (1,), (1,))), False)
        # One product with an odd number, by the clause itself or with a monomial.
        formula = (2, ((-1,),))
        self.assertIs(is_balance(formula, 2, ((), (2,))), True)
        self.assertIs(is_balance(formula, 2, ((), (1,))), False)
        self.assertIs(is_balance(formula, 2, ((), (1, 2))), False)
        self.assertIs(is_balance(formula, 1, ((), (2,))), True)
        formula = (2, ((1,),))
        self.assertIs(is_balance(formula, 2, ((), (1,), (1, 2), (2,))), True)
        self.assertIs(is_balance(formula, 2, ((), (1,), (2,))), False)
        self.assertIs(is_balance(formula, 1, ((), (1,), (2,))), True)
        self.assertIs(is_balance((2, ((1, 2),)), 1, ((),)), True)
        self.assertIs(is_balance((2, ((1, 2),)), 2, ((),)), False)

    def test_wrong_forms(self):
        for value in ([()], ([],), ((), [1]), ((), (1, 1)), ((), (2, 1)), ((), (0,)), ((), (-1,)), ((), (3,)), "", None,
                      ((), (True,)), ((), (1.0,)), ((), ("1",)), ((), 1), ((), None), ((), ((1,),)), {()}, {(): True},
                      0, True, (1,), ((1,),), (((),),)):
            self.assertIs(is_balance((2, ()), 2, value), False, value)

    def test_any_value(self):
        for value in oracles.strange_values():
            for k in (0, 1, 5):
                self.assertIs(is_balance((1, ()), k, value), False, repr(value))
                self.assertIs(is_balance((1, ()), k, (value,)), repr(value) == "()")
                self.assertIs(is_balance((1, ()), k, ((), value)), k > 0 and repr(value) == "(1,)")

    def test_against_the_words(self):
        source = random.Random(8)
        for formula in oracles.random_formulas(83, 100, 3, 5, 3):
            n = formula[0]
            for k in range(n + 2):
                answer, data = decide(formula, ("static", k))
                tries = [data] if answer == "no" else []
                for _ in range(6):
                    tries.append(tuple(m for m in oracles.monomials(n, k) if m == () or source.random() < 0.5))
                    if answer == "no":
                        monomial = source.choice(oracles.monomials(n))
                        tries.append(tuple(sorted(set(data) ^ {monomial})))
                for value in tries:
                    self.assertIs(is_balance(formula, k, value), plain_balance(formula, k, value), (formula, k, value))

    def test_all_of_two_variables(self):
        every = oracles.monomials(2)
        for formula in list(oracles.all_formulas(2))[::3]:
            for k in range(4):
                found = False
                for size in range(5):
                    for value in itertools.combinations(every, size):
                        right = is_balance(formula, k, value)
                        found = found or right
                        if size < 3:
                            self.assertIs(right, plain_balance(formula, k, value))
                one = frozenset([frozenset()])
                self.assertIs(found, not oracles.is_spanned(one, oracles.static_products(formula, k)))
