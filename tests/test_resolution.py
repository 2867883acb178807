import copy
import random
import unittest

import oracles
from rebut.clauses import restricted
from rebut.errors import WrongStep
from rebut.resolution import (clauses_of, is_refutation, is_regular, is_treelike, pruned, restricted_steps, step_depth,
                              step_width, strict_steps, unfolded)

TWO = (2, ((-2,), (-1, 2), (1,)))
ALL_TWO = (2, ((-2, -1), (-2, 1), (-1, 2), (1, 2)))
STEPS = (("axiom", 2), ("axiom", 1), ("resolve", 0, 1, 1), ("axiom", 0), ("resolve", 2, 3, 2))
# Refutes ALL_TWO with steps that are used twice, weakened, and not used at all.
MIXED = (("axiom", 3), ("axiom", 1), ("resolve", 0, 1, 2), ("weaken", 2, (-2, 1)), ("axiom", 2), ("axiom", 0),
         ("resolve", 4, 5, 2), ("weaken", 2, (1, 2)), ("resolve", 7, 3, 2), ("resolve", 8, 6, 1))


def wrong_at(formula, steps):
    try:
        clauses_of(formula, steps)
    except WrongStep as error:
        return error.index
    return None


class Clauses(unittest.TestCase):
    def test_examples(self):
        self.assertEqual(clauses_of(TWO, (("axiom", 2), ("axiom", 1), ("resolve", 0, 1, 1))), [(1,), (-1, 2), (2,)])
        self.assertEqual(clauses_of(TWO, STEPS), [(1,), (-1, 2), (2,), (-2,), ()])
        self.assertEqual(clauses_of(TWO, ()), [])
        self.assertEqual(clauses_of((0, ()), ()), [])
        self.assertEqual(clauses_of(ALL_TWO, MIXED), [(1, 2), (-2, 1), (1,), (-2, 1), (-1, 2), (-2, -1), (-1,), (1, 2),
                                                      (1,), ()])

    def test_random(self):
        for formula, steps in oracles.random_refutations(21, 60):
            self.assertEqual(clauses_of(formula, steps), oracles.clauses_of_steps(formula, steps))

    def test_wrong_steps(self):
        # Behind the two steps (1,) and (-1, 2).
        front = (("axiom", 2), ("axiom", 1))
        wrong = [(), ("axiom",), ("axiom", 0, 0), ("axiom", 3), ("axiom", -1), ("axiom", True), ("axiom", False),
                 ("axiom", 0.0), ("axiom", "0"), ("axiom", None), ("axiom", (0,)), ("axiom", [0]), ("axiom", 10 ** 30),
                 ("axioms", 0), ("Axiom", 0), ("", 0), (0, 0), (None, 0), (b"axiom", 0), (["axiom"], 0),
                 (("axiom",), 0), (True, 0), ("resolve",), ("weaken",), ("resolve", 0, 1), ("resolve", 0, 1, 1, 1),
                 ("resolve", 1, 0, 1), ("resolve", 0, 1, 2), ("resolve", 0, 0, 1), ("resolve", 0, 2, 1),
                 ("resolve", 2, 1, 1), ("resolve", 0, 3, 1), ("resolve", -2, -1, 1), ("resolve", 0, -1, 1),
                 ("resolve", False, 1, 1), ("resolve", 0, True, 1), ("resolve", 0, 1, True), ("resolve", 0, 1, 0),
                 ("resolve", 0, 1, -1), ("resolve", 1, 0, -1), ("resolve", 0, 1, 3), ("resolve", 0, 1, 1.0),
                 ("resolve", 0, 1, "1"), ("resolve", "0", 1, 1), ("resolve", 0, None, 1), ("resolve", [0], 1, 1),
                 ("resolve", 0, {}, 1), ("weaken", 0), ("weaken", 0, (1,), 0), ("weaken", 2, (1, 2)),
                 ("weaken", -1, (-1, 2)), ("weaken", True, (-1, 2)), ("weaken", False, (1, 2)), ("weaken", 0, (2,)),
                 ("weaken", 0, ()), ("weaken", 0, (2, 1)), ("weaken", 0, (1, 1)), ("weaken", 0, (-1, 1)),
                 ("weaken", 0, (1, 3)), ("weaken", 0, (-3, 1)), ("weaken", 0, (0, 1)), ("weaken", 0, [1, 2]),
                 ("weaken", 0, (True, 2)), ("weaken", 0, "12"), ("weaken", 0, None), ("weaken", 0, 1),
                 ("weaken", 0, {1, 2}), ("weaken", 0, {1: 2}), ("weaken", 1, (2,)), ("weaken", 0, (1, (2,))),
                 ("weaken", 0, (1, "2")), ("weaken", None, (1, 2)), ("weaken", 0, (1, 2.0)), ("unfold", 0, 1)]
        for step in wrong:
            self.assertEqual(wrong_at(TWO, front + (step,)), 2, step)
            self.assertEqual(wrong_at(TWO, front + (step, ())), 2, step)
            self.assertIs(is_refutation(TWO, front + (step,)), False)
            self.assertIs(is_refutation(TWO, front + (step,) + STEPS[2:]), False)
            more = (("axiom", 3), ("axiom", 2), step, ("axiom", 0))
            self.assertIs(is_refutation((2, ((),) + TWO[1]), more), step == ("axiom", 3))

    def test_first_wrong_step(self):
        for at in range(len(STEPS) + 1):
            self.assertEqual(wrong_at(TWO, STEPS[:at] + ((),) + STEPS[at:]), at)
            self.assertEqual(wrong_at(TWO, STEPS[:at] + (("axiom", 9), ("axiom", -1)) + STEPS[at:]), at)
        self.assertEqual(wrong_at((0, ()), (("axiom", 0),)), 0)
        self.assertEqual(wrong_at(TWO, (("resolve", 0, 1, 1),)), 0)
        self.assertEqual(wrong_at(TWO, (("axiom", 0), ("weaken", 1, (-2,)))), 1)

    def test_strange_items(self):
        for value in oracles.strange_values():
            for step in ((value,), ("axiom", value), (value, 0), ("resolve", 0, value, 1), ("resolve", value, 1, 1),
                         ("resolve", 0, 1, value), ("weaken", value, (1, 2)), ("weaken", 0, value),
                         ("weaken", 0, (1, value))):
                right = repr(step) in ("('axiom', 0)", "('axiom', 1)", "('resolve', 0, 1, 1)", "('weaken', 0, (1,))",
                                       "('weaken', 0, (1, 2))")
                self.assertEqual(wrong_at(TWO, (("axiom", 2), ("axiom", 1), step)), None if right else 2)

    def test_no_clause(self):
        # The literals of both are 2 and -2, or the clause is one already.
        self.assertEqual(wrong_at(ALL_TWO, (("axiom", 3), ("axiom", 0), ("resolve", 0, 1, 1))), 2)
        self.assertEqual(wrong_at(ALL_TWO, (("axiom", 3), ("axiom", 2), ("resolve", 0, 1, 1))), None)

    def test_new_lists(self):
        first = clauses_of(TWO, STEPS)
        first.append(0)
        self.assertEqual(len(clauses_of(TWO, STEPS)), len(STEPS))


class IsRefutation(unittest.TestCase):
    def test_right_ones(self):
        self.assertIs(is_refutation((1, ((-1,), (1,))), (("axiom", 1), ("axiom", 0), ("resolve", 0, 1, 1))), True)
        self.assertIs(is_refutation(TWO, STEPS), True)
        self.assertIs(is_refutation(ALL_TWO, MIXED), True)
        self.assertIs(is_refutation((0, ((),)), (("axiom", 0),)), True)
        self.assertIs(is_refutation((3, ((), (1,))), (("axiom", 1), ("axiom", 0), ("weaken", 1, ()))), True)

    def test_wrong_ones(self):
        for value in ((), STEPS[:-1], STEPS + (("axiom", 0),), STEPS + (("weaken", 4, (1,)),), list(STEPS),
                      [list(step) for step in STEPS], tuple(list(step) for step in STEPS), STEPS[::-1], STEPS[0],
                      STEPS + ([],), (STEPS,), (("axiom", 0), None), None, 0, "axiom"):
            self.assertIs(is_refutation(TWO, value), False, value)
        self.assertIs(is_refutation((0, ()), ()), False)
        self.assertIs(is_refutation((0, ()), (("axiom", 0),)), False)

    def test_any_value(self):
        for formula in (TWO, (0, ()), (1, ((-1,), (1,)))):
            for value in oracles.strange_values():
                self.assertIs(is_refutation(formula, value), False)
                self.assertIs(is_refutation(formula, (value,)), False)
                self.assertIs(is_refutation(formula, STEPS + (value,)), False)

    def test_random(self):
        for formula, steps in oracles.random_refutations(22, 60):
            self.assertIs(is_refutation(formula, steps), True)
            self.assertIs(is_refutation(formula, steps[:-1]), False)


class Measures(unittest.TestCase):
    def test_single_step(self):
        for steps in ((("axiom", 1),),):
            self.assertEqual(step_width(TWO, steps), 2)
            self.assertEqual(step_depth(steps), 0)
            self.assertIs(is_treelike(steps), True)
            self.assertIs(is_regular(steps), True)
        self.assertEqual(step_width((0, ((),)), (("axiom", 0),)), 0)

    def test_mixed(self):
        self.assertEqual(step_width(ALL_TWO, MIXED), 2)
        self.assertEqual(step_depth(MIXED), 3)
        self.assertIs(is_treelike(MIXED), False)
        self.assertIs(is_regular(MIXED), False)
        self.assertIs(is_regular(MIXED[:8]), True)
        self.assertEqual(step_depth(MIXED[:8]), 1)
        self.assertEqual((step_width(TWO, STEPS), step_depth(STEPS)), (2, 2))
        self.assertIs(is_treelike(STEPS), True)
        self.assertIs(is_regular(STEPS), True)

    def test_width_counts_all_steps(self):
        steps = (("axiom", 0), ("weaken", 0, (-3, -2, 1))) + (("axiom", 2),)
        self.assertEqual(step_width((3, TWO[1]), steps), 3)

    def test_treelike(self):
        self.assertIs(is_treelike(STEPS + (("axiom", 0),)), False)
        self.assertIs(is_treelike((("axiom", 0),) + tuple(STEPS[:0]) + (("axiom", 1),)), False)
        self.assertIs(is_treelike((("axiom", 0), ("weaken", 0, (-2, 1)))), True)
        self.assertIs(is_treelike((("axiom", 0), ("weaken", 0, (-2, 1)), ("weaken", 0, (-2, -1)))), False)

    def test_depth_follows_the_last_step(self):
        self.assertEqual(step_depth(STEPS + (("axiom", 0),)), 0)
        self.assertEqual(step_depth(STEPS + (("weaken", 2, (1, 2)),)), 1)

    def test_regular_ignores_other_steps(self):
        # Steps that lead not to the last one do not count, and a variable may come on two different ways.
        self.assertIs(is_regular(MIXED + (("axiom", 0),)), True)
        steps = (("axiom", 3), ("axiom", 1), ("resolve", 0, 1, 2), ("axiom", 2), ("axiom", 0), ("resolve", 3, 4, 2),
                 ("resolve", 2, 5, 1))
        self.assertIs(is_regular(steps), True)
        self.assertIs(is_treelike(steps), True)

    def test_random(self):
        for formula, steps in oracles.random_refutations(23, 60):
            self.assertEqual(step_width(formula, steps), max(len(c) for c in clauses_of(formula, steps)))
            ways = list(self.ways(steps, len(steps) - 1))
            self.assertEqual(step_depth(steps), max(len(way) for way in ways))
            self.assertIs(is_regular(steps), all(len(set(way)) == len(way) for way in ways))
            uses = [at for step in steps for at in self.earlier(step)]
            self.assertIs(is_treelike(steps), sorted(uses) == list(range(len(steps) - 1)))

    def earlier(self, step):
        return step[1:3] if step[0] == "resolve" else step[1:2] if step[0] == "weaken" else ()

    def ways(self, steps, at):
        """The lists of the variables on all ways back from a step."""
        step = steps[at]
        if step[0] == "axiom":
            yield []
        for before in self.earlier(step):
            for way in self.ways(steps, before):
                yield way + [step[3]] if step[0] == "resolve" else way


class Pruned(unittest.TestCase):
    def test_examples(self):
        self.assertEqual(pruned(STEPS), STEPS)
        self.assertEqual(pruned(STEPS + (("axiom", 0),)), (("axiom", 0),))
        self.assertEqual(pruned((("axiom", 0),) + (("axiom", 2), ("axiom", 0), ("axiom", 1), ("resolve", 1, 3, 1))),
                         (("axiom", 2), ("axiom", 1), ("resolve", 0, 1, 1)))
        self.assertEqual(pruned((("axiom", 2), ("axiom", 0), ("weaken", 0, (1, 2)), ("axiom", 2),
                                 ("weaken", 2, (1, 2)))),
                         (("axiom", 2), ("weaken", 0, (1, 2)), ("weaken", 1, (1, 2))))
        self.assertEqual(pruned(MIXED), MIXED)

    def test_random(self):
        for formula, steps in oracles.random_refutations(24, 60):
            used = {len(steps) - 1}
            for at in range(len(steps) - 1, -1, -1):
                if at in used:
                    used |= set(Measures.earlier(None, steps[at]))
            kept = pruned(steps)
            clauses = clauses_of(formula, steps)
            self.assertIs(type(kept), tuple)
            self.assertEqual(clauses_of(formula, kept), [clauses[at] for at in sorted(used)])
            self.assertEqual([step[0] for step in kept], [steps[at][0] for at in sorted(used)])
            self.assertEqual(pruned(kept), kept)


class Strict(unittest.TestCase):
    def check(self, formula, steps, new):
        self.assertIs(type(new), tuple)
        self.assertIs(is_refutation(formula, new), True)
        self.assertNotIn("weaken", [step[0] for step in new])
        self.assertLessEqual(len(new), len(steps[1]))
        self.assertLessEqual(step_width(formula, new), step_width(*steps))

    def test_examples(self):
        for formula, steps in ((TWO, STEPS), (ALL_TWO, MIXED), ((0, ((),)), (("axiom", 0),)),
                               ((1, ((), (1,))), (("axiom", 0), ("weaken", 0, (1,)), ("weaken", 0, ())))):
            self.check(formula, (formula, steps), strict_steps(formula, steps))
        # Both clauses are weakened by the variable that is resolved on.
        formula = (2, ((), (1,)))
        steps = (("axiom", 0), ("weaken", 0, (2,)), ("weaken", 0, (-2,)), ("resolve", 1, 2, 2))
        self.check(formula, (formula, steps), strict_steps(formula, steps))

    def test_random(self):
        for formula, steps in oracles.random_refutations(25, 80):
            self.check(formula, (formula, steps), strict_steps(formula, steps))

    def test_nothing_is_changed(self):
        formula, steps = copy.deepcopy((ALL_TWO, MIXED))
        strict_steps(formula, steps)
        unfolded(steps)
        self.assertEqual((formula, steps), (ALL_TWO, MIXED))


class Restricted(unittest.TestCase):
    def check(self, formula, steps, cube):
        new = restricted_steps(formula, steps, cube)
        left = restricted(formula, cube)
        self.assertIs(type(new), tuple)
        self.assertIs(is_refutation(left, new), True, (formula, steps, cube))
        self.assertLessEqual(len(new), len(steps))
        self.assertLessEqual(step_width(left, new), step_width(formula, steps))

    def test_all_cubes(self):
        for formula, steps in ((TWO, STEPS), (ALL_TWO, MIXED)):
            for cube in oracles.cubes(2):
                self.check(formula, steps, cube)

    def test_random(self):
        source = random.Random(3)
        for formula, steps in oracles.random_refutations(26, 60):
            whole = oracles.cubes(formula[0])
            for cube in [()] + source.sample(whole, min(12, len(whole))):
                self.check(formula, steps, cube)
            for cube in list(oracles.assignments(formula[0]))[:4]:
                self.check(formula, steps, cube)


class Unfolded(unittest.TestCase):
    def test_example(self):
        self.assertEqual(unfolded(STEPS), STEPS)
        self.assertEqual(unfolded((("axiom", 1), ("axiom", 2), ("resolve", 1, 0, 1))),
                         (("axiom", 2), ("axiom", 1), ("resolve", 0, 1, 1)))
        self.assertEqual(unfolded(MIXED[:9]), (
            ("axiom", 3), ("axiom", 1), ("resolve", 0, 1, 2), ("weaken", 2, (1, 2)),
            ("axiom", 3), ("axiom", 1), ("resolve", 4, 5, 2), ("weaken", 6, (-2, 1)), ("resolve", 3, 7, 2)))
        self.assertEqual(unfolded((("axiom", 1), ("axiom", 0))), (("axiom", 0),))

    def test_random(self):
        for formula, steps in oracles.random_refutations(27, 60):
            new = unfolded(steps)
            self.assertEqual(new, self.plain(steps, len(steps) - 1))
            self.assertIs(is_treelike(new), True)
            self.assertIs(is_refutation(formula, new), True)

    def test_long(self):
        steps = (("axiom", 0),) + tuple(("weaken", at, (-2,)) for at in range(3000))
        self.assertEqual(unfolded(steps), steps)
        self.assertEqual(step_depth(steps), 0)
        self.assertIs(is_treelike(steps), True)

    def plain(self, steps, at):
        step = steps[at]
        if step[0] == "axiom":
            return (step,)
        first = self.plain(steps, step[1])
        if step[0] == "weaken":
            return first + (("weaken", len(first) - 1, step[2]),)
        second = tuple(self.moved(row, len(first)) for row in self.plain(steps, step[2]))
        return first + second + (("resolve", len(first) - 1, len(first) + len(second) - 1, step[3]),)

    def moved(self, step, by):
        if step[0] == "resolve":
            return ("resolve", step[1] + by, step[2] + by, step[3])
        return ("weaken", step[1] + by, step[2]) if step[0] == "weaken" else step
