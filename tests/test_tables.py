import random
import unittest

import oracles
from rebut.tables import is_table, number_in

ONE = (1, ((-1,), (1,)))
ALL_TWO = (2, ((-2, -1), (-2, 1), (-1, 2), (1, 2)))
FREE = (2, ())
KINDS = ("depth", "rank", "leaves")


def best_table(formula, kind):
    pairs = []
    for cube in oracles.cubes(formula[0]):
        number = oracles.value_of(formula, cube, kind)
        if number > (1 if kind == "leaves" else 0):
            pairs.append((cube, number))
    return tuple(pairs)


class NumberIn(unittest.TestCase):
    def test_numbers(self):
        table = (((), 3), ((-1,), 2), ((-1, 2), 1))
        for kind, other in (("depth", 0), ("rank", 0), ("leaves", 1)):
            self.assertEqual(number_in(kind, table, ()), 3)
            self.assertEqual(number_in(kind, table, (-1,)), 2)
            self.assertEqual(number_in(kind, table, (-1, 2)), 1)
            self.assertEqual(number_in(kind, table, (1,)), other)
            self.assertEqual(number_in(kind, (), ()), other)


class IsTable(unittest.TestCase):
    def test_examples(self):
        self.assertIs(is_table(ONE, "depth", (((), 1),)), True)
        self.assertIs(is_table(ONE, "rank", (((), 1),)), True)
        self.assertIs(is_table(ONE, "leaves", (((), 2),)), True)
        for kind in KINDS:
            self.assertIs(is_table(ONE, kind, ()), True)
            self.assertIs(is_table((0, ()), kind, (((), 10 ** 40),)), True)
            self.assertIs(is_table((0, ((),)), kind, (((), 2),)), False)
        self.assertIs(is_table(ONE, "width", ()), False)
        self.assertIs(is_table(ONE, "depth", (((), 2),)), False)
        self.assertIs(is_table(ONE, "rank", (((), 2),)), False)
        self.assertIs(is_table(ONE, "leaves", (((), 3),)), False)

    def test_number_one_for_leaves(self):
        self.assertIs(is_table(ONE, "leaves", (((), 1), ((-1,), 1), ((1,), 1))), True)
        self.assertIs(is_table((0, ((),)), "leaves", (((), 1),)), True)
        self.assertIs(is_table((0, ((),)), "depth", (((), 1),)), False)
        self.assertIs(is_table((0, ((),)), "rank", (((), 1),)), False)

    def test_conditions(self):
        two = (2, ())
        one_side = (((), 3), ((1,), 2), ((-2,), 2), ((-2, 1), 9))
        self.assertIs(is_table(two, "depth", (((), 1),)), True)
        self.assertIs(is_table(two, "depth", (((), 2),)), False)
        self.assertIs(is_table(two, "depth", (((), 2), ((-2,), 1), ((1,), 1))), True)
        self.assertIs(is_table(two, "depth", (((), 2), ((1,), 1))), False)
        self.assertIs(is_table(two, "depth", (((), 3), ((-2,), 1), ((1,), 1))), False)
        self.assertIs(is_table(two, "rank", (((), 1),)), True)
        self.assertIs(is_table(two, "rank", (((), 2),)), False)
        self.assertIs(is_table(two, "rank", (((), 2), ((-2,), 1), ((1,), 1))), False)
        self.assertIs(is_table(two, "rank", (((), 2), ((-2,), 1), ((-1,), 1), ((1,), 1), ((2,), 1))), True)
        self.assertIs(is_table(two, "rank", (((), 2), ((-2,), 1), ((-1,), 1), ((1,), 1))), False)
        self.assertIs(is_table(two, "rank", (((), 2), ((-2,), 2), ((-2, 1), 2), ((1,), 2))), True)
        self.assertIs(is_table(two, "leaves", (((), 2),)), True)
        self.assertIs(is_table(two, "leaves", (((), 3),)), False)
        self.assertIs(is_table(two, "leaves", (((), 3), ((-2,), 2), ((1,), 2))), True)
        self.assertIs(is_table(two, "leaves", (((), 4), ((-2,), 2), ((1,), 2))), False)
        self.assertIs(is_table(two, "leaves", (((), 4), ((-2,), 3), ((-2, 1), 2), ((1,), 3))), True)
        self.assertIs(is_table(two, "depth", tuple(sorted(one_side))), True)
        self.assertIs(is_table(two, "depth", (((), 3), ((-2,), 2), ((1,), 2))), False)

    def test_cubes_that_falsify(self):
        formula = (2, ((-1,),))
        for kind in KINDS:
            self.assertIs(is_table(formula, kind, (((-1, 2), 5),)), True)
            self.assertIs(is_table(formula, kind, (((1, 2), 5),)), False)
            self.assertIs(is_table(formula, kind, (((-1, 2), 5), ((1, 2), 5))), False)

    def test_wrong_forms(self):
        for value in (((), 1), [((), 1)], (((), 0),), (((), -1),), (((), True),), (((), 1.0),), (((), "1"),),
                      (([], 1),), ([(), 1],), (((), 1, 1),), (((),),), ((),), (((), 1), ((), 1)), (((), 1), ((), 2)),
                      (((1,), 1), ((), 1)), (((1,), 1), ((-1,), 1)), (((-1,), 1), ((1,), 1), ((1,), 1)),
                      (((2, 1), 1),), (((1, 1),), 1), (((1, 1), 1),), (((-1, 1), 1),), (((3,), 1),), (((-3,), 1),),
                      (((0,), 1),), (((True,), 1),), ((("1",), 1),), ((1, 1),), ((None, 1),), (((), None),),
                      {(): 1}, {((), 1)}, "", None, 0, True, (((1,), 1), None), ((((1,),), 1),)):
            for kind in KINDS:
                self.assertIs(is_table(FREE, kind, value), False, (kind, value))

    def test_any_value(self):
        for value in oracles.strange_values():
            for kind in KINDS:
                right = repr(value) in ("()", "(((), 1),)") or (
                    kind == "leaves" and repr(value) in ("(((-1,), 1),)", "(((1,), 1),)"))
                self.assertIs(is_table(ONE, kind, value), right, repr(value))
                self.assertIs(is_table(ONE, kind, (value,)), False)
                right = repr(value) == "()" or (kind == "leaves" and repr(value) in ("(1,)", "(-1,)"))
                self.assertIs(is_table(ONE, kind, ((value, 1),)), right)
                self.assertIs(is_table((0, ()), kind, (((), value),)), repr(value) in ("1", str(10 ** 40)))

    def test_best_tables(self):
        for kind, wanted in (("depth", 2), ("rank", 2), ("leaves", 4)):
            table = best_table(ALL_TWO, kind)
            self.assertIs(is_table(ALL_TWO, kind, table), True)
            self.assertEqual(number_in(kind, table, ()), wanted)

    def test_tables_tell_the_truth(self):
        source = random.Random(8)
        for formula in oracles.random_refutable(51, 25, 3, 10):
            for kind in KINDS:
                table = best_table(formula, kind)
                least = oracles.value_of(formula, (), kind)
                self.assertIs(is_table(formula, kind, table), True)
                self.assertEqual(number_in(kind, table, ()), least)
                for _ in range(40):
                    numbers = {cube: number + source.choice((0, 0, 0, 1, -1)) for cube, number in table}
                    numbers[()] = number_in(kind, table, ()) + 1
                    other = tuple(sorted((cube, number) for cube, number in numbers.items() if number > 0))
                    self.assertIs(is_table(formula, kind, other), False)

    def test_against_the_words(self):
        source = random.Random(9)
        for formula in oracles.random_formulas(52, 60, 2, 4):
            for _ in range(40):
                cubes = [cube for cube in oracles.cubes(formula[0]) if source.random() < 0.6]
                table = tuple((cube, source.choice((1, 1, 1, 2, 2, 3))) for cube in cubes)
                for kind in KINDS:
                    self.assertIs(is_table(formula, kind, table), self.plain(formula, kind, table))

    def plain(self, formula, kind, table):
        for cube, p in table:
            if kind == "leaves" and p == 1:
                continue
            if any(oracles.is_false(clause, cube) for clause in formula[1]):
                return False
            for v in range(1, formula[0] + 1):
                if {v, -v} & set(cube):
                    continue
                low, high = (dict(table).get(tuple(sorted(cube + (x,))), 1 if kind == "leaves" else 0) for x in (-v, v))
                if kind == "depth" and not max(low, high) >= p - 1:
                    return False
                if kind == "rank" and not (max(low, high) >= p or min(low, high) >= p - 1):
                    return False
                if kind == "leaves" and not low + high >= p:
                    return False
        return True
