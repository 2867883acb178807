import itertools
import unittest

import oracles
from rebut.families import chain_formula, order_formula, parity_formula, pebble_formula, pigeon_formula
from rebut.resolution import is_refutation
from rebut.solving import is_solved, solve

ONE = (1, ((-1,), (1,)))
STEPS = (("axiom", 1), ("axiom", 0), ("resolve", 0, 1, 1))


class Solve(unittest.TestCase):
    def check(self, formula):
        answer = solve(formula)
        self.assertIs(type(answer), tuple)
        good = oracles.models(formula)
        if good:
            self.assertEqual(answer[0], "model")
            self.assertIn(answer[1], good)
        else:
            self.assertEqual(answer[0], "refutation")
            self.assertTrue(is_refutation(formula, answer[1]))
            self.assertEqual(oracles.clauses_of_steps(formula, answer[1])[-1], ())
        self.assertEqual(len(answer), 2)
        self.assertIs(is_solved(formula, answer), True)

    def test_edges(self):
        self.assertEqual(solve((1, ((1,),))), ("model", (1,)))
        self.assertEqual(solve((0, ())), ("model", ()))
        self.assertEqual(solve((0, ((),))), ("refutation", (("axiom", 0),)))
        for formula in ((3, ()), (3, ((),)), (3, ((), (1,))), ONE, (5, ((-3,),)), (2, ((-2, -1), (1, 2)))):
            self.check(formula)
        self.assertEqual(solve((40, ()))[0], "model")
        self.assertEqual(len(solve((40, ()))[1]), 40)

    def test_a_question_that_was_not_needed(self):
        # Behind 5 there are no models whatever 5 is, but it was needed for what was found where it is false.
        self.check((5, ((-5, -1), (-3, -2), (-3, 2), (-2, 3), (-1, 5), (1, 5), (2, 3))))
        self.check((5, ((-5, -1), (-5, 1), (-3, -2), (-3, 2), (-2, 3), (2, 3))))

    def test_every_small_formula(self):
        clauses = oracles.cubes(2)
        for count in range(len(clauses) + 1):
            for rows in itertools.combinations(clauses, count):
                self.check((2, rows))

    def test_random(self):
        for formula in oracles.random_formulas(31, 400):
            self.check(formula)
        for formula in oracles.random_formulas(32, 100, 8, 40, 3):
            self.check(formula)
        for formula in oracles.random_refutable(33, 60, 5, 16, 5):
            self.check(formula)

    def test_families(self):
        triangle = [(0, 1), (1, 2), (0, 2)]
        for formula, word in ((chain_formula(40), "refutation"), (pigeon_formula(4, 3), "refutation"),
                              (pigeon_formula(5, 4), "refutation"), (pigeon_formula(4, 4), "model"),
                              (order_formula(6), "refutation"), (parity_formula(3, triangle, [0]), "refutation"),
                              (parity_formula(3, triangle, [0, 1]), "model"),
                              (pebble_formula([[], [], [1, 2], [1, 3]]), "refutation")):
            answer = solve(formula)
            self.assertEqual(answer[0], word)
            self.assertIs(is_solved(formula, answer), True)


class IsSolved(unittest.TestCase):
    def test_right_ones(self):
        self.assertIs(is_solved(ONE, ("refutation", STEPS)), True)
        self.assertIs(is_solved((2, ((1,),)), ("model", (1, 2))), True)
        self.assertIs(is_solved((2, ((1,),)), ("model", (-2, 1))), True)
        self.assertIs(is_solved((0, ()), ("model", ())), True)

    def test_wrong_ones(self):
        for value in (("model", (1,)), ("model", (-1,)), ("refutation", (1,)), ("refutation", STEPS[:2]), STEPS,
                      ("refutation", STEPS, 0), ("refutation",), ["refutation", STEPS], ("refutation", list(STEPS)),
                      ("log", STEPS), ("model", STEPS), (b"refutation", STEPS), ("Refutation", STEPS), (STEPS,),
                      (None, STEPS), (STEPS, "refutation"), ("refutation", ()), ("", STEPS)):
            self.assertIs(is_solved(ONE, value), False, value)
        for value in (("model", ()), ("model", (1,)), ("model", (-2, 1)), ("model", (2, 1)), ("model", [1, 2]),
                      ("model", (1, 2, 3)), ("model", (1, 3)), ("model", (True, 2)), ("model", (-2, 2)),
                      ("model", (1, 1)), ("refutation", ()), ("refutation", (1, 2)), ("model", (1, 2), 0),
                      ("models", (1, 2)), ("model", None), ("model", "12"), ("model", {1: 2}), ("model", (1.0, 2))):
            self.assertIs(is_solved((2, ((1, 2), (2,))), value), False, value)

    def test_any_value(self):
        for value in oracles.strange_values():
            self.assertIs(is_solved(ONE, value), False)
            self.assertIs(is_solved(ONE, ("model", value)), False)
            self.assertIs(is_solved(ONE, ("refutation", value)), False)
            self.assertIs(is_solved(ONE, (value, STEPS)), False)
            self.assertIs(is_solved((1, ()), ("model", (value,))), repr(value) in ("1", "-1"))

    def test_never_both(self):
        for formula in oracles.random_formulas(34, 80, 3, 8):
            has_model = any(is_solved(formula, ("model", cube)) for cube in oracles.cubes(formula[0]))
            self.assertEqual(has_model, solve(formula)[0] == "model")
