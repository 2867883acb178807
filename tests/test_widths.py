import itertools
import random
import unittest

import oracles
from rebut.families import chain_formula, pigeon_formula
from rebut.resolution import clauses_of, step_width
from rebut.widths import closed_of, family_of, is_closed, is_family, saturated

ALL_TWO = (2, ((-2, -1), (-2, 1), (-1, 2), (1, 2)))
CHAIN = (3, ((-3,), (-2, 3), (-1, 2), (1,)))


def plain_closed(formula, k, clauses):
    def covered(clause):
        return any(set(part) <= set(clause) for part in clauses)
    if any(len(clause) <= k and not covered(clause) for clause in formula[1]):
        return False
    for first, second in itertools.product(clauses, repeat=2):
        for v in range(1, formula[0] + 1):
            if v in first and -v in second:
                rest = (set(first) | set(second)) - {v, -v}
                if not any(-x in rest for x in rest) and len(rest) <= k and not covered(rest):
                    return False
    return True


def plain_family(formula, k, cubes):
    inside = set(cubes)
    if () not in inside:
        return False
    for cube in cubes:
        if any(tuple(x for x in cube if x != y) not in inside for y in cube):
            return False
        if any(len(clause) <= k and oracles.is_false(clause, cube) for clause in formula[1]):
            return False
        if len(cube) <= k:
            for v in range(1, formula[0] + 1):
                if not {v, -v} & set(cube) and not {tuple(sorted(cube + (x,))) for x in (v, -v)} & inside:
                    return False
    return True


class IsClosed(unittest.TestCase):
    def test_right_ones(self):
        self.assertIs(is_closed(ALL_TWO, 1, ()), True)
        self.assertIs(is_closed(ALL_TWO, 0, ()), True)
        self.assertIs(is_closed((0, ()), 0, ()), True)
        self.assertIs(is_closed((0, ()), 7, ()), True)
        self.assertIs(is_closed((2, ((1, 2),)), 2, ((1,),)), True)
        self.assertIs(is_closed((2, ((1, 2),)), 2, ((1, 2),)), True)
        self.assertIs(is_closed((2, ((1, 2),)), 10 ** 20, ((1, 2),)), True)
        self.assertIs(is_closed((2, ((1, 2),)), 1, ((-1,), (2,))), True)
        self.assertIs(is_closed((3, ((-2, 3), (-1, 2))), 2, ((-2, 3), (-1, 2), (-1, 3))), True)
        self.assertIs(is_closed((3, ((-2, 3), (-1, 2))), 2, ((-2, 3), (-1,))), True)

    def test_conditions(self):
        # The empty clause, a clause that is too wide, a clause of the formula, a resolvent.
        self.assertIs(is_closed((1, ()), 1, ((),)), False)
        self.assertIs(is_closed((2, ()), 1, ((1, 2),)), False)
        self.assertIs(is_closed((2, ()), 2, ((1, 2),)), True)
        self.assertIs(is_closed((2, ((1,),)), 1, ()), False)
        self.assertIs(is_closed((2, ((1,),)), 1, ((2,),)), False)
        self.assertIs(is_closed((2, ((1,),)), 0, ()), True)
        self.assertIs(is_closed((3, ()), 2, ((-2, 3), (-1, 2))), False)
        self.assertIs(is_closed((3, ()), 2, ((-2, 1), (2,))), False)
        self.assertIs(is_closed((3, ()), 2, ((-2, 1), (1,), (2,))), True)
        self.assertIs(is_closed((1, ()), 1, ((-1,), (1,))), False)
        self.assertIs(is_closed((0, ((),)), 0, ()), False)
        self.assertIs(is_closed((2, ((),)), 2, ()), False)
        self.assertIs(is_closed((2, ((),)), 2, ((1,),)), False)
        # What is no clause, or too wide, needs not be there.
        self.assertIs(is_closed((2, ()), 2, ((-2, -1), (1, 2))), True)
        self.assertIs(is_closed((3, ()), 2, ((-2, 3), (1, 2))), False)
        self.assertIs(is_closed((5, ()), 3, ((-3, 4, 5), (1, 2, 3))), True)

    def test_wrong_forms(self):
        for value in ([], [(1,)], ([1],), ((1,), (-1,)), ((2,), (1, 2)), ((1,), (1,)), ((2, 1),), ((1, 1),), ((-1, 1),),
                      ((0,),), ((3,),), ((-3,),), ((True,),), ((1.0,),), (("1",),), (1,), "", {}, set(), {(1,)}, None,
                      0, True, ((1,), None), (((1,),),)):
            self.assertIs(is_closed((2, ()), 2, value), False, value)

    def test_any_value(self):
        for value in oracles.strange_values():
            for k in (0, 1, 3):
                self.assertIs(is_closed((1, ()), k, value), repr(value) == "()" or (
                    k > 0 and repr(value) in ("((1,),)", "((-1,),)")), repr(value))
                self.assertIs(is_closed((1, ()), k, (value,)), k > 0 and repr(value) in ("(1,)", "(-1,)"))

    def test_against_the_words(self):
        source = random.Random(10)
        for formula in oracles.random_formulas(61, 80, 3, 5, 3):
            for k in range(5):
                narrow = [clause for clause in oracles.cubes(formula[0]) if 0 < len(clause) <= k]
                for _ in range(6):
                    value = tuple(clause for clause in narrow if source.random() < 0.3)
                    self.assertIs(is_closed(formula, k, value), plain_closed(formula, k, value))
                whole = saturated(formula, k)
                self.assertIs(is_closed(formula, k, whole), () not in whole)


class IsFamily(unittest.TestCase):
    def test_right_ones(self):
        self.assertIs(is_family((0, ()), 0, ((),)), True)
        self.assertIs(is_family((0, ()), 5, ((),)), True)
        self.assertIs(is_family((1, ()), 0, ((), (1,))), True)
        self.assertIs(is_family((1, ()), 0, ((), (-1,), (1,))), True)
        self.assertIs(is_family((1, ((1,),)), 1, ((), (1,))), True)
        self.assertIs(is_family((1, ((1,),)), 0, ((), (-1,))), True)
        self.assertIs(is_family((2, ()), 5, ((), (-2,), (-2, 1), (1,))), True)
        self.assertIs(is_family(ALL_TWO, 1, tuple(oracles.cubes(2))), True)

    def test_conditions(self):
        two = (2, ())
        right = ((), (-2,), (-2, 1), (1,))
        self.assertIs(is_family(two, 1, right), True)
        for left_out in right:
            self.assertIs(is_family(two, 1, tuple(cube for cube in right if cube != left_out)), False)
        self.assertIs(is_family(two, 0, right), False)
        self.assertIs(is_family(two, 0, ((), (-2,), (1,))), True)
        self.assertIs(is_family(two, 0, ((), (1,))), False)
        self.assertIs(is_family(two, 1, ((), (-2,), (1,))), False)
        self.assertIs(is_family(two, 1, ()), False)
        self.assertIs(is_family((2, ((2,),)), 1, right), False)
        self.assertIs(is_family((2, ((2,),)), 0, ((), (-2,), (1,))), True)
        self.assertIs(is_family((2, ((-1, 2),)), 1, right), True)
        self.assertIs(is_family((2, ((-1, 2),)), 2, right), False)
        self.assertIs(is_family((0, ((),)), 0, ((),)), False)
        self.assertIs(is_family((2, ((),)), 1, right), False)

    def test_wrong_forms(self):
        for value in ([(), (1,)], ((), [1]), ((1,), ()), ((), (), (1,)), ((), (1,), (1,)), ((), (2,)), ((), (0,), (1,)),
                      ((), (True,)), ((), (1.0,)), ((), ("1",)), ((), (-1, 1), (1,)), ((), 1), "", None, True, 1, (),
                      {(): (1,)}, {(), (1,)}, ((), (1,), None), ((), ((1,),)), ((), (1, 1)), ((), (1,), (-1,))):
            self.assertIs(is_family((1, ()), 1, value), False, value)

    def test_any_value(self):
        for value in oracles.strange_values():
            for k in (0, 1, 3):
                self.assertIs(is_family((1, ()), k, value), False, repr(value))
                self.assertIs(is_family((1, ()), k, ((), value)), repr(value) in ("(1,)", "(-1,)"))
                self.assertIs(is_family((0, ()), k, (value,)), repr(value) == "()")

    def test_against_the_words(self):
        source = random.Random(11)
        for formula in oracles.random_formulas(62, 60, 3, 5, 3):
            for k in range(5):
                short = [cube for cube in oracles.cubes(formula[0]) if len(cube) <= k + 1]
                tries = [tuple(short), family_of(formula, k, tuple(c for c in saturated(formula, k) if c))]
                tries += [tuple(cube for cube in short if source.random() < 0.9) for _ in range(4)]
                assignments = source.sample(list(oracles.assignments(formula[0])), min(2, 2 ** formula[0]))
                tries.append(tuple(cube for cube in short if any(set(cube) <= set(a) for a in assignments)))
                for value in tries:
                    self.assertIs(is_family(formula, k, value), plain_family(formula, k, value))


class Translations(unittest.TestCase):
    def test_examples(self):
        self.assertEqual(family_of((1, ()), 0, ()), ((), (-1,), (1,)))
        self.assertEqual(family_of((2, ()), 0, ()), ((), (-2,), (-1,), (1,), (2,)))
        self.assertEqual(family_of((2, ((1,),)), 1, ((1,),)), ((), (-2,), (-2, 1), (1,), (1, 2), (2,)))
        self.assertEqual(family_of((0, ()), 3, ()), ((),))
        self.assertEqual(closed_of((1, ()), 0, ((), (-1,), (1,))), ())
        self.assertEqual(closed_of((1, ()), 1, ((), (1,))), ((1,),))
        self.assertEqual(closed_of((1, ()), 9, ((), (-1,), (1,))), ())
        self.assertEqual(closed_of((2, ()), 1, ((), (-2,), (-2, 1), (1,))), ((-2,), (1,)))

    def test_large_k(self):
        for formula in ((3, ()), (3, ((1, 2, 3),)), (0, ())):
            closed = saturated(formula, 10 ** 20)
            family = family_of(formula, 10 ** 20, closed)
            self.assertEqual(family, family_of(formula, formula[0], closed))
            self.assertIs(is_family(formula, 10 ** 20, family), True)
            self.assertIs(is_closed(formula, 10 ** 20, closed_of(formula, 10 ** 20, family)), True)

    def test_random(self):
        for formula in oracles.random_formulas(63, 120, 4, 10, 4):
            for k in range(formula[0] + 2):
                closed = saturated(formula, k)
                if () in closed:
                    continue
                family = family_of(formula, k, closed)
                self.assertIs(type(family), tuple)
                self.assertEqual(family, tuple(
                    cube for cube in oracles.cubes(formula[0])
                    if len(cube) <= k + 1 and not any(oracles.is_false(clause, cube) for clause in closed)))
                self.assertIs(is_family(formula, k, family), True)
                back = closed_of(formula, k, family)
                self.assertEqual(back, tuple(
                    clause for clause in oracles.cubes(formula[0])
                    if len(clause) <= k and tuple(-x for x in reversed(clause)) not in family))
                self.assertIs(is_closed(formula, k, back), True)

    def test_families_of_assignments(self):
        for formula in oracles.random_formulas(64, 60, 3, 6, 3):
            for model in oracles.models(formula):
                for k in range(4):
                    family = tuple(cube for cube in oracles.cubes(formula[0])
                                   if set(cube) <= set(model) and len(cube) <= k + 1)
                    self.assertIs(is_family(formula, k, family), True)
                    self.assertIs(is_closed(formula, k, closed_of(formula, k, family)), True)


class Saturated(unittest.TestCase):
    def test_examples(self):
        self.assertEqual(saturated((2, ((-1, 2), (1, 2))), 2), ((-1, 2), (1, 2), (2,)))
        self.assertEqual(saturated((2, ((-1, 2), (1, 2))), 1), ())
        self.assertEqual(saturated(ALL_TWO, 0), ())
        self.assertEqual(saturated(ALL_TWO, 1), ())
        self.assertEqual(saturated(ALL_TWO, 2), tuple(oracles.cubes(2)))
        self.assertEqual(saturated((3, ()), 2), ())
        self.assertEqual(saturated((3, ((),)), 0), ((),))
        self.assertEqual(saturated((3, ((), (1, 2))), 1), ((),))
        self.assertEqual(saturated((1, ((-1,), (1,))), 0), ())
        wide = ((-3, 4, 5), (1, 2, 3))
        self.assertEqual(saturated((5, wide), 2), ())
        self.assertEqual(saturated((5, wide), 3), wide)
        self.assertEqual(saturated((5, wide), 4), ((-3, 4, 5), (1, 2, 3), (1, 2, 4, 5)))
        self.assertEqual(saturated((1, ((-1,), (1,))), 10 ** 20), ((), (-1,), (1,)))

    def test_random(self):
        for formula in oracles.random_formulas(65, 120, 4, 10, 4):
            for k in range(formula[0] + 2):
                self.assertEqual(saturated(formula, k), oracles.plain_saturated(formula, k))
        for formula in oracles.random_formulas(67, 20, 6, 10, 4):
            self.assertEqual(saturated(formula, 3), oracles.plain_saturated(formula, 3))

    def test_refutations_are_covered(self):
        for formula, steps in oracles.random_refutations(66, 60):
            width = step_width(formula, steps)
            for k in range(formula[0] + 1):
                closed = saturated(formula, k)
                if k >= width:
                    self.assertIn((), closed)
                if () not in closed:
                    self.assertLess(k, width)
                narrow = [clause for step, clause in zip(steps, clauses_of(formula, steps)) if step[0] == "axiom"]
                for clause in narrow:
                    if len(clause) <= k:
                        self.assertIn(clause, closed)

    def test_ends_soon(self):
        rows = list(itertools.product((-1, 1), (-2, 2), (-3, 3), (-4, 4)))
        formula = (5, tuple(sorted(tuple(sorted(row)) for row in rows)))
        for k in range(7):
            closed = saturated(formula, k)
            if () not in closed:
                self.assertIs(is_closed(formula, k, closed), True)
                self.assertIs(is_family(formula, k, family_of(formula, k, closed)), True)
        self.assertIn((), saturated(formula, 4))
        everything = tuple(clause for clause in oracles.cubes(5) if clause)
        self.assertIs(is_closed(formula, 5, everything), False)

    def test_families(self):
        self.assertIn((), saturated(chain_formula(12), 2))
        self.assertNotIn((), saturated(chain_formula(12), 1))
        self.assertNotIn((), saturated(pigeon_formula(4, 3), 2))
        self.assertIs(is_closed(CHAIN, 1, saturated(CHAIN, 1)), () not in saturated(CHAIN, 1))
