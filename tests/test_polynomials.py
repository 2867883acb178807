import itertools
import random
import unittest

import oracles
from rebut.polynomials import (clause_polynomial, degree, is_polynomial, leading, plus, reduced, times, value_at)

ZERO = ()
ONE = ((),)


def random_polynomial(source, n, most=None, share=0.4):
    return tuple(m for m in oracles.monomials(n, most) if source.random() < share)


class IsPolynomial(unittest.TestCase):
    def test_right_ones(self):
        for n in (0, 1, 3, 40):
            self.assertIs(is_polynomial(n, ZERO), True)
            self.assertIs(is_polynomial(n, ONE), True)
        self.assertIs(is_polynomial(1, ((), (1,))), True)
        self.assertIs(is_polynomial(3, ((), (1,), (1, 2), (1, 2, 3), (1, 3), (2,), (2, 3), (3,))), True)
        self.assertIs(is_polynomial(40, ((40,),)), True)

    def test_wrong_ones(self):
        for value in (((1,), ()), ((), ()), ((1,), (1,)), ((2, 1),), ((1, 1),), ((1, 1, 2),), ((2,), (1, 2)), ((0,),),
                      ((-1,),), ((3,),), ((1, 3),), ((True,),), ((1, True),), ((False,),), ((1.0,),), (("1",),),
                      ([1],), [(1,)], [], ((), [1]), ({1},), {()}, {(1,)}, {(1,): True}, "", "1", (1,), 1, 0, None,
                      True, (None,), ((None,),), (((1,),),), ((), (1,), None), (((),),), ((1,), 1)):
            self.assertIs(is_polynomial(2, value), False, value)
        self.assertIs(is_polynomial(0, ((1,),)), False)
        self.assertIs(is_polynomial(40, ((41,),)), False)

    def test_any_value(self):
        for value in oracles.strange_values():
            self.assertIs(is_polynomial(2, value), repr(value) == "()", repr(value))
            right = repr(value) in ("()", "(1,)")
            self.assertIs(is_polynomial(2, (value,)), right, repr(value))
            self.assertIs(is_polynomial(2, ((), value)), repr(value) == "(1,)", repr(value))
            self.assertIs(is_polynomial(2, ((value,),)), repr(value) == "1", repr(value))

    def test_all_rows(self):
        rows = [(), (1,), (2,), (1, 2), (2, 1)]
        right = {(), (1,), (2,), (1, 2)}
        for length in range(4):
            for value in itertools.product(rows, repeat=length):
                wanted = set(value) <= right and list(value) == sorted(set(value))
                self.assertIs(is_polynomial(2, value), wanted, value)


class Sums(unittest.TestCase):
    def test_examples(self):
        self.assertEqual(plus(ZERO, ZERO), ZERO)
        self.assertEqual(plus(ONE, ONE), ZERO)
        self.assertEqual(plus(ONE, ZERO), ONE)
        self.assertEqual(plus(ZERO, ((1, 2), (3,))), ((1, 2), (3,)))
        self.assertEqual(plus(((1, 2), (3,)), ((1, 2), (3,))), ZERO)
        self.assertEqual(plus(((1,), (2,)), ((), (1, 2), (2,))), ((), (1,), (1, 2)))

    def test_all_of_two_variables(self):
        every = [row for size in range(5) for row in itertools.combinations(oracles.monomials(2), size)]
        for p, q in itertools.product(every, repeat=2):
            total = plus(p, q)
            self.assertEqual(total, tuple(sorted(set(p) ^ set(q))))
            self.assertIs(is_polynomial(2, total), True)
            for cube in oracles.assignments(2):
                self.assertEqual(value_at(total, cube), (value_at(p, cube) + value_at(q, cube)) % 2)


class Products(unittest.TestCase):
    def test_examples(self):
        self.assertEqual(times(((), (1,)), ((1,),)), ZERO)
        self.assertEqual(times(ZERO, ((1,),)), ZERO)
        self.assertEqual(times(((1,),), ZERO), ZERO)
        self.assertEqual(times(ONE, ((), (1, 2))), ((), (1, 2)))
        self.assertEqual(times(((1,),), ((1,),)), ((1,),))
        self.assertEqual(times(((2,),), ((1,),)), ((1, 2),))
        self.assertEqual(times(((1, 3),), ((2, 3),)), ((1, 2, 3),))
        self.assertEqual(times(((1,), (2,)), ((1,), (2,))), ((1,), (2,)))
        self.assertEqual(times(((), (1,)), ((), (2,))), ((), (1,), (1, 2), (2,)))
        self.assertEqual(times(((), (1,)), ((), (1,))), ((), (1,)))

    def test_all_of_two_variables(self):
        every = [row for size in range(5) for row in itertools.combinations(oracles.monomials(2), size)]
        for p, q in itertools.product(every, repeat=2):
            product = times(p, q)
            self.assertEqual(product, oracles.as_tuple(oracles.set_times(oracles.as_set(p), oracles.as_set(q))))
            self.assertIs(type(product), tuple)
            for cube in oracles.assignments(2):
                self.assertEqual(value_at(product, cube), value_at(p, cube) * value_at(q, cube))

    def test_random(self):
        source = random.Random(1)
        for _ in range(150):
            p, q = random_polynomial(source, 4), random_polynomial(source, 4, 2)
            for result, sign in ((plus(p, q), int.__xor__), (times(p, q), int.__and__)):
                self.assertIs(is_polynomial(4, result), True)
                for cube in oracles.assignments(4):
                    self.assertEqual(value_at(result, cube), sign(value_at(p, cube), value_at(q, cube)))


class Values(unittest.TestCase):
    def test_degree(self):
        self.assertEqual(degree(ZERO), -1)
        self.assertEqual(degree(ONE), 0)
        self.assertEqual(degree(((), (3,))), 1)
        self.assertEqual(degree(((1, 2, 3), (2,), (7,))), 3)

    def test_value_at(self):
        self.assertEqual(value_at(ZERO, (1,)), 0)
        self.assertEqual(value_at(ONE, ()), 1)
        self.assertEqual(value_at(((), (1,)), (1,)), 0)
        self.assertEqual(value_at(((), (1,)), (-1,)), 1)
        self.assertEqual(value_at(((1, 2),), (-2, 1)), 0)
        self.assertEqual(value_at(((1, 2),), (-3, 1, 2)), 1)
        self.assertEqual(value_at(((1,), (1, 2), (2,)), (1, 2)), 1)

    def test_values_are_the_polynomial(self):
        for size in range(3):
            for p in itertools.combinations(oracles.monomials(3), size):
                for cube in oracles.assignments(3):
                    wanted = sum(set(monomial) <= set(cube) for monomial in p) % 2
                    self.assertEqual(value_at(p, cube), wanted)
                    self.assertIs(type(value_at(p, cube)), int)

    def test_clause_polynomial(self):
        self.assertEqual(clause_polynomial(()), ONE)
        self.assertEqual(clause_polynomial((-2, 1)), ((1, 2), (2,)))
        self.assertEqual(clause_polynomial((1,)), ((), (1,)))
        self.assertEqual(clause_polynomial((-1,)), ((1,),))
        for clause in oracles.cubes(4):
            p = clause_polynomial(clause)
            self.assertIs(is_polynomial(4, p), True)
            self.assertEqual(degree(p), len(clause))
            for cube in oracles.assignments(4):
                self.assertEqual(value_at(p, cube), int(oracles.is_false(clause, cube)))


class Reduced(unittest.TestCase):
    def test_leading(self):
        self.assertEqual(leading(ONE), ())
        self.assertEqual(leading(((), (2,), (3,))), (3,))
        self.assertEqual(leading(((), (1, 2), (3,))), (1, 2))
        self.assertEqual(leading(((1, 2), (1, 3), (2, 3), (9,))), (2, 3))
        self.assertEqual(leading(((1, 2, 3), (10, 11))), (1, 2, 3))
        self.assertEqual(leading(((2,), (10,))), (10,))

    def test_examples(self):
        self.assertEqual(reduced(ZERO, (((1,),),)), ZERO)
        self.assertEqual(reduced(((1,),), ()), ((1,),))
        self.assertEqual(reduced(((1,),), (((1,),),)), ZERO)
        self.assertEqual(reduced(((1, 2), (2,)), (((1,),),)), ((1, 2), (2,)))
        self.assertEqual(reduced(((1,), (2,)), (((), (1,)), ((1,), (2,)))), ZERO)
        self.assertEqual(reduced(((2,),), (((), (1,)), ((1,), (2,)))), ONE)
        self.assertEqual(reduced(((1, 2), (3,)), (((), (1, 2)), ((2,), (3,)))), ((), (2,)))
        # A monomial that leads vanishes, and comes back through another one.
        self.assertEqual(reduced(((1,), (1, 2)), (((), (1,)), ((1,), (1, 2)))), ZERO)

    def test_against_all_sums(self):
        source = random.Random(2)
        for _ in range(60):
            space = {}
            for _ in range(source.randint(0, 5)):
                p = random_polynomial(source, 3)
                if p not in (ZERO, ONE):
                    space.setdefault(leading(p), p)
            row = tuple(sorted(space.values()))
            sums = {frozenset()}
            for p in row:
                sums |= {other ^ oracles.as_set(p) for other in sums}
            for _ in range(12):
                p = random_polynomial(source, 3)
                rest = reduced(p, row)
                self.assertIs(is_polynomial(3, rest), True)
                self.assertEqual(rest == ZERO, oracles.as_set(p) in sums)
                self.assertIn(oracles.as_set(p) ^ oracles.as_set(rest), sums)
                self.assertFalse(set(rest) & set(space))
            for p in sums:
                self.assertEqual(reduced(oracles.as_tuple(p), row), ZERO)
