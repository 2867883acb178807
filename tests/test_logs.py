import copy
import itertools
import random
import unittest

import oracles
from rebut.families import chain_formula, order_formula, parity_formula, pigeon_formula
from rebut.logs import follows_at_once, is_log, log_of_steps, shortened_log, steps_of_log
from rebut.resolution import is_refutation
from rebut.solving import solve

ONE = (1, ((-1,), (1,)))
ALL_TWO = (2, ((-2, -1), (-2, 1), (-1, 2), (1, 2)))
FOUR = (4, ((-4, -3), (-4, 3), (-3, 4), (-2, -1), (-2, 1), (-1, 2), (1, 2)))
# All eight clauses of three variables: no clause of fewer than two literals follows at once.
ALL_THREE = (3, tuple(clause for clause in oracles.cubes(3) if len(clause) == 3))


def logs():
    """Pairs of formulas and logs of many sorts."""
    yield (0, ((),)), ((),)
    yield (3, ((), (1, 2, 3))), ((),)
    yield (3, ((), (1, 2, 3))), ((1,), (), (-2, 3), ())
    yield ONE, ((),)
    yield ONE, ((-1,), (1,), (), (-1,), (), ())
    yield ALL_TWO, ((1,), ())
    yield ALL_TWO, ((-2,), (1, 2), (-1,), (), ())
    yield ALL_THREE, ((1, 2), (1,), (2,), ())
    yield chain_formula(5), ((),)
    yield chain_formula(5), ((1,), (2,), (3,), (4,), (5,), ())
    for formula in (pigeon_formula(3, 2), order_formula(4), parity_formula(3, [(0, 1), (1, 2), (0, 2)], [0])):
        yield formula, log_of_steps(formula, solve(formula)[1])
    for formula, steps in oracles.random_refutations(321, 60):
        yield formula, log_of_steps(formula, steps)
    source = random.Random(32)
    for formula in oracles.random_refutable(322, 80, 5, 16, 4):
        yield formula, random_log(source, formula)


def random_log(source, formula):
    """A log that adds clauses at random among those that follow at once."""
    clauses = oracles.cubes(formula[0])
    log = []
    while True:
        known = formula[1] + tuple(log)
        good = [clause for clause in source.sample(clauses, min(len(clauses), 25)) if oracles.plain_follows(known, clause)]
        if good:
            log.append(min(good, key=len) if source.random() < 0.5 else source.choice(good))
        if oracles.plain_follows(formula[1] + tuple(log), ()) and source.random() < 0.3:
            return tuple(log) + ((),)


class FollowsAtOnce(unittest.TestCase):
    def test_examples(self):
        self.assertIs(follows_at_once(ONE, ()), True)
        self.assertIs(follows_at_once(ALL_TWO, ()), False)
        self.assertIs(follows_at_once(ALL_TWO, (1,)), True)
        self.assertIs(follows_at_once((2, ((1,),)), (2,)), False)
        self.assertIs(follows_at_once((2, ((1,),)), (1, 2)), True)
        self.assertIs(follows_at_once((2, ()), (-2, 1)), False)
        self.assertIs(follows_at_once((2, ((),)), ()), True)
        self.assertIs(follows_at_once((0, ()), ()), False)
        self.assertIs(follows_at_once((3, ((-1, 2), (-2, 3))), (-1, 3)), True)
        self.assertIs(follows_at_once((3, ((-1, 2), (-2, 3))), (-3, 1)), False)

    def test_it_needs_more_than_that_it_follows(self):
        for formula in ((3, ((-3, -2), (-3, 2), (-2, 3), (1, 2, 3))), (4, ((-3, -2), (-3, 2), (-2, 1, 3), (1, 2, 3))), ALL_THREE):
            self.assertTrue(all(1 in cube for cube in oracles.models(formula)))
            self.assertIs(follows_at_once(formula, (1,)), False)

    def test_against_the_words(self):
        for formula in list(oracles.all_formulas(1)) + list(oracles.all_formulas(2))[::3]:
            for clause in oracles.cubes(formula[0]):
                self.assertIs(follows_at_once(formula, clause), oracles.plain_follows(formula[1], clause))
        for formula in oracles.random_formulas(323, 80, 4, 12):
            for clause in oracles.cubes(formula[0]):
                follows = follows_at_once(formula, clause)
                self.assertIs(follows, oracles.plain_follows(formula[1], clause))
                if follows:
                    self.assertTrue(all(oracles.is_true(clause, cube) for cube in oracles.models(formula)))


class IsLog(unittest.TestCase):
    def test_right_ones(self):
        for formula, log in logs():
            self.assertIs(is_log(formula, log), True, (formula, log))

    def test_wrong_forms(self):
        for log in ((), [(1,), ()], ([1], ()), ((1,), []), ((True,), ()), ((1,), (False,), ()), ((3,), (1,), ()), ((-3,), (1,), ()),
                    ((0,), (1,), ()), ((-1, 1), (1,), ()), ((2, 1), (1,), ()), ((1, 1), (1,), ()), ((1,),), ((1,), (), (1,)),
                    ((1,), None), (1, ()), ((1,), (), 0), ((1.0,), ()), (("1",), ()), ("", ()), ("a", ()), (b"", ()), ((1,), ((),)),
                    (((1,),), ()), ({}, ()), ((1,), ""), ((10 ** 30,), ())):
            self.assertIs(is_log(ALL_TWO, log), False, log)

    def test_wrong_ones(self):
        self.assertIs(is_log(ALL_TWO, ((),)), False)
        self.assertIs(is_log(ALL_TWO, ((1, 2), ())), False)
        self.assertIs(is_log(ALL_THREE, ((1,), (), ())), False)
        self.assertIs(is_log((2, ((1, 2),)), ((1, 2), ())), False)
        self.assertIs(is_log((0, ()), ((),)), False)
        self.assertIs(is_log((1, ((1,),)), ((1,), (-1,), ())), False)

    def test_earlier_clauses_count(self):
        self.assertIs(is_log(ALL_THREE, ((1, 2), (1,), ())), False)
        self.assertIs(is_log(ALL_THREE, ((1, 2), (-2, 1), (-1, 2), ())), False)
        # The clause (1,) follows at once with (1, 2) only, and the empty one with (1,) only.
        log = ((1, 2), (1,), (2,), ())
        self.assertIs(is_log(ALL_THREE, log), True)
        for order in itertools.permutations(log[:3]):
            self.assertIs(is_log(ALL_THREE, order + ((),)), order == log[:3] or order == ((1, 2), (2,), (1,)))
        self.assertIs(is_log(ALL_THREE, ((1,), (1, 2), (2,), ())), False)
        # What is behind does not help what is ahead, and no clause helps itself.
        self.assertIs(is_log(ALL_TWO, ((), (1,), ())), False)

    def test_the_empty_clause_ahead_of_the_end(self):
        self.assertIs(is_log(ALL_TWO, ((1,), (), (2,), ())), True)
        self.assertIs(is_log(ALL_TWO, ((1,), (), ())), True)
        self.assertIs(is_log(ALL_TWO, ((1,), (), (2,))), False)
        self.assertIs(is_log((0, ((),)), ((), (), ())), True)

    def test_any_value(self):
        for value in oracles.strange_values():
            for log in (value, (value,), (value, ()), ((1,), value), ((1,), value, ()), ((value,), ()), ((1, value), ()),
                        ((1,), (), value)):
                right = repr(log) in ("((1,), ())", "((-1,), ())", "((1,), (1,), ())", "((1,), (-1,), ())")
                self.assertIs(is_log(ALL_TWO, log), right, repr(log))
                self.assertIs(is_log((2, ((1,),)), log), False)

    def test_against_the_words(self):
        for formula in oracles.all_formulas(1):
            for size in range(4):
                for log in itertools.product(oracles.cubes(1), repeat=size):
                    self.assertIs(is_log(formula, log), oracles.plain_is_log(formula, log))
        source = random.Random(33)
        right = 0
        for formula in oracles.random_formulas(324, 300, 3, 10):
            clauses = oracles.cubes(formula[0])
            for _ in range(10):
                log = tuple(source.choice(clauses) for _ in range(source.randint(0, 4))) + ((),)
                wanted = oracles.plain_is_log(formula, log)
                right += wanted
                self.assertIs(is_log(formula, log), wanted)
                if wanted:
                    self.assertEqual(oracles.models(formula), [])
        self.assertGreater(right, 300)

    def test_every_clause_counts(self):
        source = random.Random(34)
        for formula, log in logs():
            for _ in range(6):
                at = source.randrange(len(log))
                other = log[:at] + (source.choice(oracles.cubes(formula[0])),) * source.randint(0, 1) + log[at + 1:]
                self.assertIs(is_log(formula, other), oracles.plain_is_log(formula, other))


class LogOfSteps(unittest.TestCase):
    def test_examples(self):
        steps = (("axiom", 1), ("weaken", 0, (1,)), ("axiom", 1), ("axiom", 0), ("resolve", 1, 3, 1), ("axiom", 0), ("weaken", 4, ()))
        self.assertEqual(log_of_steps(ONE, steps), ((1,), (1,), (1,), (-1,), (), (-1,), ()))
        self.assertEqual(log_of_steps((0, ((),)), (("axiom", 0),)), ((),))

    def test_random(self):
        for formula, steps in oracles.random_refutations(325, 60):
            before = copy.deepcopy((formula, steps))
            log = log_of_steps(formula, steps)
            self.assertIs(type(log), tuple)
            self.assertEqual(log, tuple(oracles.clauses_of_steps(formula, steps)))
            self.assertTrue(oracles.plain_is_log(formula, log))
            self.assertEqual(before, (formula, steps))


class StepsOfLog(unittest.TestCase):
    def check_steps(self, formula, log):
        before = copy.deepcopy((formula, log))
        steps = steps_of_log(formula, log)
        self.assertIs(type(steps), tuple)
        self.assertIs(is_refutation(formula, steps), True, (formula, log))
        self.assertEqual(oracles.clauses_of_steps(formula, steps)[-1], ())
        self.assertLessEqual(len(steps), len(formula[1]) + formula[0] * len(log), (formula, log))
        self.assertEqual(before, (formula, log))
        return steps

    def test_examples(self):
        self.assertEqual(self.check_steps((0, ((),)), ((),)), (("axiom", 0),))
        self.assertEqual(len(self.check_steps(ONE, ((),))), 3)
        # Exactly as many steps as are allowed: two clauses, and one step for one variable.
        self.assertEqual(self.check_steps((3, ((), (1, 2, 3))), ((1,), (), (-2, 3), ())), (("axiom", 0),))
        for n in range(1, 20):
            self.assertEqual(len(self.check_steps(chain_formula(n), ((),))), 2 * n + 1)

    def test_clauses_that_are_derived_in_part(self):
        formula = (3, ((-2, -1), (-2, 1), (-1, 2), (1, 2)))
        self.check_steps(formula, ((1, 3), (1, 2, 3), (-3, 1), (1,), ()))
        self.check_steps((3, ((), (1,))), ((1, 2, 3), ()))

    def test_many(self):
        for formula, log in logs():
            self.check_steps(formula, log)
            self.check_steps(formula, log + log)


class ShortenedLog(unittest.TestCase):
    def check_log(self, formula, log):
        before = copy.deepcopy((formula, log))
        found = shortened_log(formula, log)
        self.assertIs(type(found), tuple)
        rest = iter(log)
        self.assertTrue(all(clause in rest for clause in found), (log, found))
        self.assertTrue(oracles.plain_is_log(formula, found), (formula, log, found))
        for at in range(len(found)):
            self.assertFalse(oracles.plain_is_log(formula, found[:at] + found[at + 1:]), (formula, log, found))
        self.assertEqual(before, (formula, log))
        return found

    def test_examples(self):
        self.assertEqual(self.check_log((0, ((),)), ((),)), ((),))
        self.assertEqual(self.check_log((0, ((),)), ((), (), ())), ((),))
        self.assertEqual(self.check_log(ONE, ((1,), (-1,), ())), ((),))
        self.assertEqual(self.check_log(ALL_TWO, ((1,), ())), ((1,), ()))
        self.assertEqual(self.check_log(ALL_TWO, ((1, 2), (1,), (1,), (), (2,), ())), ((1,), ()))

    def test_none_can_be_left_out(self):
        for formula, log in ((ALL_THREE, ((1, 2), (1,), (2,), ())), (ALL_TWO, ((-2,), ())), (ONE, ((),)), (FOUR, ((2,), ()))):
            self.assertEqual(self.check_log(formula, log), log)

    def test_all_but_one_can(self):
        for formula, log in (((3, ((), (1, 2, 3))), ((1,), (2,), (1, 2), ())), (chain_formula(5), ((1,), (2,), (3,), (4,), (5,), ()))):
            self.assertEqual(self.check_log(formula, log), ((),))

    def test_a_clause_that_only_needless_ones_need(self):
        # (1, 2) is needed for (1,) only, and that one for nothing: neither can be left out as long as the other is there.
        log = ((1, 2), (1,), (-3, -2), (-3,), (2,), ())
        self.assertTrue(oracles.plain_is_log(ALL_THREE, log))
        self.assertFalse(oracles.plain_is_log(ALL_THREE, log[1:]))
        found = self.check_log(ALL_THREE, log)
        self.assertLess(len(found), len(log))
        self.assertEqual(self.check_log(FOUR, ((1, 3), (1, 4), (2,), ())), ((2,), ()))

    def test_many(self):
        for formula, log in logs():
            self.check_log(formula, log)

    def test_all_orders(self):
        source = random.Random(35)
        clauses = oracles.cubes(3)
        count = 0
        while count < 60:
            log = tuple(source.choice(clauses) for _ in range(source.randint(2, 7))) + ((),)
            if oracles.plain_is_log(ALL_THREE, log):
                count += 1
                self.check_log(ALL_THREE, log)
