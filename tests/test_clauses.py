import copy
import itertools
import unittest

import oracles
from rebut.clauses import (falsified, falsifies, forced, is_formula, is_model, joined, made_clause, made_formula,
                           renamed, restricted, satisfies, variables_of, width_of_formula)
from rebut.errors import BadFormula


class IsFormula(unittest.TestCase):
    def test_right_ones(self):
        for value in ((0, ()), (0, ((),)), (40, ()), (2, ((-2,), (-1, 2), (1,))), (1, ((), (-1,), (1,))),
                      (40, ((-40, 1), (40,)))):
            self.assertIs(is_formula(value), True, value)

    def test_wrong_ones(self):
        for value in ((-1, ()), (41, ()), (10 ** 30, ()), (True, ()), (False, ()), (1.0, ()), ("1", ()), (None, ()),
                      (1, []), [1, ()], (1, ([1],)), (1, [(1,)]), (1,), (1, (), ()), (), (1, ((1,), (1,))),
                      (1, ((1,), (-1,))), (2, ((1, -2),)), (2, ((1, 1),)), (1, ((0,),)), (1, ((2,),)), (1, ((-2,),)),
                      (0, ((1,),)), (1, ((-1, 1),)), (1, ((True,),)), (1, ((1.0,),)), (1, (("1",),)), (1, (1,)),
                      (1, ((1,), ())), (2, ((1,), (2,), (2,))), (1, (None,)), (1, "()"), (1, {}), (1, {()}),
                      (1, (b"",)), (1, ((None,),)), (1, (((1,),),)), (2, ((1, (2,)),))):
            self.assertIs(is_formula(value), False, value)

    def test_any_value(self):
        for value in oracles.strange_values():
            answer = is_formula(value)
            self.assertIsInstance(answer, bool)
            if answer:
                self.assertTrue(value[0] in (0, 1) and value[1] == ())
            self.assertIs(is_formula((1, value)), repr(value) == "()")
            self.assertIs(is_formula((1, (value,))), repr(value) in ("()", "(1,)", "(-1,)"))

    def test_deep_values(self):
        for kind in (tuple, list, dict):
            for depth in (1, 2, 3, 100, 200):
                self.assertIs(is_formula(oracles.nested(depth, 1, kind)), False)
                self.assertIs(is_formula((3, oracles.nested(depth - 1, (), kind))), depth == 1 or
                              (depth == 2 and kind is tuple))


class Made(unittest.TestCase):
    def test_examples(self):
        self.assertEqual(made_formula(2, [[2, -1, 2], [1], [1, -1]]), (2, ((-1, 2), (1,))))
        self.assertEqual(made_clause([3, -1, 3]), (-1, 3))
        self.assertIsNone(made_clause([3, -1, -3]))
        self.assertEqual(made_clause([]), ())

    def test_edges(self):
        self.assertEqual(made_formula(0, []), (0, ()))
        self.assertEqual(made_formula(0, [[]]), (0, ((),)))
        self.assertEqual(made_formula(40, [[40, -40], [40], [], [40]]), (40, ((), (40,))))
        self.assertEqual(made_formula(3, [[3], [-3], [1, 2], [2, 1], [-1, 2]]), (3, ((-3,), (-1, 2), (1, 2), (3,))))

    def test_wrong_numbers(self):
        for n, rows in ((-1, []), (41, []), (10 ** 20, []), (-5, [[1]]), (2, [[0]]), (2, [[3]]), (2, [[-3]]),
                        (2, [[1, -1, 0]]), (2, [[1, -1, 3]]), (2, [[-3, 1, -1]]), (2, [[1], [2], [1, 2, 3]]),
                        (0, [[1]]), (0, [[-1]]), (2, [[3, -3]]), (1, [[10 ** 30]]), (2, [[1], [0, 0]])):
            with self.assertRaises(BadFormula, msg=(n, rows)):
                made_formula(n, rows)

    def test_nothing_is_changed(self):
        rows = [[2, -1, 2], [1], [1, -1]]
        before = copy.deepcopy(rows)
        made_formula(2, rows)
        self.assertEqual(rows, before)
        for row in rows:
            made_clause(row)
        self.assertEqual(rows, before)
        with self.assertRaises(BadFormula):
            made_formula(1, rows)
        self.assertEqual(rows, before)

    def test_against_all_rows(self):
        rows = [list(row) for count in range(4) for row in itertools.product((-2, -1, 1, 2), repeat=count)]
        for row in rows:
            wanted = None if {1, -1} <= set(row) or {2, -2} <= set(row) else tuple(sorted(set(row)))
            self.assertEqual(made_clause(row), wanted)
            formula = made_formula(2, [row, [1], row])
            self.assertTrue(is_formula(formula))
            self.assertEqual(set(formula[1]), {(1,)} | ({wanted} if wanted is not None else set()))


class Cubes(unittest.TestCase):
    def test_falsifies_and_satisfies(self):
        for cube in oracles.cubes(3):
            for clause in oracles.cubes(3):
                self.assertIs(falsifies(cube, clause), oracles.is_false(clause, cube))
                self.assertIs(satisfies(cube, clause), oracles.is_true(clause, cube))
        self.assertIs(falsifies((), ()), True)
        self.assertIs(satisfies((1,), ()), False)

    def test_falsified(self):
        formula = (3, ((-2, -1), (-2, 1), (-1, 3), (1,)))
        self.assertEqual(falsified(formula, ()), -1)
        self.assertEqual(falsified(formula, (1, 2)), 0)
        self.assertEqual(falsified(formula, (-1,)), 3)
        self.assertEqual(falsified(formula, (-1, 2)), 1)
        self.assertEqual(falsified(formula, (-3, 1)), 2)
        self.assertEqual(falsified(formula, (-2, 1, 3)), -1)
        self.assertEqual(falsified((1, ((), (1,))), ()), 0)
        self.assertEqual(falsified((0, ()), ()), -1)
        for formula in oracles.random_formulas(1, 60, 3):
            for cube in oracles.cubes(formula[0]):
                wrong = [at for at, clause in enumerate(formula[1]) if oracles.is_false(clause, cube)]
                self.assertEqual(falsified(formula, cube), wrong[0] if wrong else -1)

    def test_is_model(self):
        for formula in oracles.random_formulas(2, 60, 3):
            good = set(oracles.models(formula))
            for cube in oracles.cubes(formula[0]):
                self.assertIs(is_model(formula, cube), cube in good)

    def test_is_model_of_what_is_not_whole(self):
        self.assertIs(is_model((2, ((1,),)), (1,)), False)
        self.assertIs(is_model((2, ()), ()), False)
        self.assertIs(is_model((2, ((1,),)), (1, 2)), True)
        self.assertIs(is_model((0, ()), ()), True)
        self.assertIs(is_model((0, ((),)), ()), False)
        self.assertIs(is_model((1, ()), (2,)), False)


class Changed(unittest.TestCase):
    def test_restricted(self):
        self.assertEqual(restricted((2, ((-1, 2), (1,))), (1,)), (2, ((2,),)))
        formula = (3, ((-2, -1), (-1,), (1, 2, 3), (3,)))
        self.assertEqual(restricted(formula, ()), formula)
        self.assertEqual(restricted(formula, (1, 2)), (3, ((), (3,))))
        self.assertEqual(restricted(formula, (-3, -2, -1)), (3, ((),)))
        self.assertEqual(restricted(formula, (-1, 2, 3)), (3, ()))
        self.assertEqual(restricted((2, ((-1, 2), (2,))), (1,)), (2, ((2,),)))
        for formula in oracles.random_formulas(3, 60, 3):
            for cube in oracles.cubes(formula[0]):
                left = restricted(formula, cube)
                self.assertTrue(is_formula(left))
                wanted = {tuple(x for x in clause if -x not in cube)
                          for clause in formula[1] if not oracles.is_true(clause, cube)}
                self.assertEqual((left[0], set(left[1])), (formula[0], wanted))

    def test_renamed(self):
        formula = (3, ((-2, -1), (-1, 3), (1,)))
        self.assertEqual(renamed(formula, (1, 2, 3)), formula)
        self.assertEqual(renamed(formula, (-1, 2, 3)), (3, ((-2, 1), (-1,), (1, 3))))
        self.assertEqual(renamed(formula, (3, -1, -2)), (3, ((-3, -2), (-3, 1), (3,))))
        self.assertEqual(renamed((0, ((),)), ()), (0, ((),)))
        for formula in oracles.random_formulas(4, 30, 3):
            n = formula[0]
            for order in itertools.permutations(range(1, n + 1)):
                for signs in itertools.product((1, -1), repeat=n):
                    names = tuple(sign * v for sign, v in zip(signs, order))
                    new = renamed(formula, names)
                    self.assertTrue(is_formula(new))
                    back = {tuple(sorted((1 if x > 0 else -1) * signs[order.index(abs(x))] * (order.index(abs(x)) + 1)
                                         for x in clause)) for clause in new[1]}
                    self.assertEqual((new[0], back), (n, set(formula[1])))

    def test_joined(self):
        self.assertEqual(joined((1, ((-1,), (1,))), (3, ((1,), (2, 3)))), (3, ((-1,), (1,), (2, 3))))
        self.assertEqual(joined((3, ((2, 3),)), (1, ((),))), (3, ((), (2, 3))))
        self.assertEqual(joined((0, ()), (0, ())), (0, ()))

    def test_width_and_variables(self):
        self.assertEqual(width_of_formula((3, ())), 0)
        self.assertEqual(width_of_formula((3, ((),))), 0)
        self.assertEqual(width_of_formula((3, ((-3, -1, 2), (1,)))), 3)
        self.assertEqual(variables_of((5, ())), [])
        self.assertEqual(variables_of((5, ((), (-4, -2), (-2, 1), (4,)))), [1, 2, 4])
        first = variables_of((1, ((1,),)))
        first.append(9)
        self.assertEqual(variables_of((1, ((1,),))), [1])


class Forced(unittest.TestCase):
    def test_examples(self):
        self.assertEqual(forced((3, ((-1, 2), (-2, 3))), (1,)), (1, 2, 3))
        self.assertEqual(forced((3, ((-1, 2), (-2, 3))), ()), ())
        self.assertEqual(forced((3, ((-1, 2), (-2, 3))), (-3,)), (-3, -2, -1))

    def test_none(self):
        self.assertIsNone(forced((1, ((-1,), (1,))), ()))
        self.assertIsNone(forced((2, ((-2,), (-1, 2))), (1,)))
        self.assertIsNone(forced((2, ((-1, 2),)), (-2, 1)))
        self.assertIsNone(forced((2, ((),)), ()))
        self.assertIsNone(forced((0, ((),)), ()))
        self.assertIsNone(forced((2, ((), (1,))), (1, 2)))
        self.assertIsNone(forced((3, ((-2, -1), (-1, 2))), (1,)))

    def test_satisfied_clauses(self):
        self.assertEqual(forced((2, ((1, 2),)), (1,)), (1,))
        self.assertEqual(forced((2, ((1, 2),)), (-2, 1)), (-2, 1))
        self.assertEqual(forced((2, ((1, 2),)), (-2,)), (-2, 1))
        self.assertEqual(forced((0, ()), ()), ())

    def test_against_all_cubes(self):
        for formula in oracles.random_formulas(5, 60, 3):
            all_cubes = oracles.cubes(formula[0])
            closed = [cube for cube in all_cubes if self.is_stable(formula, cube)]
            for cube in all_cubes:
                above = [other for other in closed if set(cube) <= set(other)]
                least = [one for one in above if all(set(one) <= set(other) for other in above)]
                self.assertEqual(forced(formula, cube), least[0] if least else None, (formula, cube))

    def is_stable(self, formula, cube):
        for clause in formula[1]:
            left = [x for x in clause if -x not in cube]
            if not left or (len(left) == 1 and left[0] not in cube):
                return False
        return True
