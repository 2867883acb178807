import copy
import itertools
import random
import unittest

import oracles
from rebut.families import chain_formula, order_formula, parity_formula, pigeon_formula
from rebut.learning import Learner, learn
from rebut.logs import is_log

ONE = (1, ((-1,), (1,)))
ALL_TWO = (2, ((-2, -1), (-2, 1), (-1, 2), (1, 2)))
ALL_THREE = (3, tuple(clause for clause in oracles.cubes(3) if len(clause) == 3))


class Watched(unittest.TestCase):
    """A learner that is compared with what the document says of it, after each call."""

    def setUp(self):
        self.words = {}

    def plain_knows(self, formula, learned, assumptions):
        found = oracles.plain_forced(list(formula[1]) + learned, assumptions)
        return None if found is None else tuple(sorted(found))

    def check_state(self, formula, learner, learned, assumptions):
        self.assertEqual(learner.learned(), learned)
        self.assertEqual(learner.assumptions(), assumptions)
        self.assertEqual(learner.knows(), self.plain_knows(formula, learned, assumptions))
        self.assertIs(learner.finished(), self.plain_knows(formula, learned, []) is None)

    def check_learned(self, formula, learned, clause, assumptions):
        self.assertIs(type(clause), tuple)
        self.assertEqual(clause, tuple(sorted(clause)))
        self.assertTrue(clause)
        self.assertTrue(set(clause) <= {-literal for literal in assumptions})
        known = list(formula[1]) + learned
        self.assertTrue(oracles.plain_follows(known, clause))
        for size in range(len(clause)):
            for less in itertools.combinations(clause, size):
                self.assertFalse(oracles.plain_follows(known, less), (formula, clause))

    def assume(self, formula, learner, literal):
        learned, assumptions = learner.learned(), learner.assumptions()
        knows = self.plain_knows(formula, learned, assumptions)
        finished = self.plain_knows(formula, learned, []) is None
        word = learner.assume(literal)
        self.words[word] = self.words.get(word, 0) + 1
        if finished:
            self.assertEqual(word, "finished")
        elif literal in knows:
            self.assertEqual(word, "known")
        elif -literal in knows:
            self.assertEqual(word, "contrary")
        else:
            assumptions.append(literal)
            if self.plain_knows(formula, learned, assumptions) is None:
                self.assertEqual(word, "conflict")
                clause = learner.learned()[-1]
                self.check_learned(formula, learned, clause, assumptions)
                learned.append(clause)
                while assumptions and self.plain_knows(formula, learned, assumptions) is None:
                    assumptions.pop()
            else:
                self.assertEqual(word, "open")
        self.check_state(formula, learner, learned, assumptions)
        return word


class Words(Watched):
    def test_examples(self):
        learner = Learner(ALL_TWO)
        self.assertEqual(learner.assume(1), "conflict")
        self.assertEqual((learner.learned(), learner.finished()), ([(-1,)], True))
        self.assertEqual(learner.assumptions(), [])
        self.assertIsNone(learner.knows())

    def test_the_five_answers(self):
        formula = (4, ((-3, -2), (-2, 3), (-1, 2, 4)))
        learner = Learner(formula)
        self.assertEqual(learner.knows(), ())
        self.assertEqual(self.assume(formula, learner, -4), "open")
        self.assertEqual(self.assume(formula, learner, -4), "known")
        self.assertEqual(self.assume(formula, learner, 4), "contrary")
        self.assertEqual(self.assume(formula, learner, 1), "conflict")
        self.assertEqual(learner.assumptions(), [-4])
        self.assertEqual(learner.learned(), [(-1, 4)])
        self.assertEqual(self.assume(formula, learner, 1), "contrary")
        self.assertEqual(self.assume(formula, learner, -1), "known")
        self.assertEqual(self.assume(formula, learner, 2), "conflict")
        self.assertEqual(learner.learned(), [(-1, 4), (-2,)])
        self.assertIs(learner.finished(), False)
        learner = Learner(ONE)
        for literal in (1, -1):
            self.assertEqual(self.assume(ONE, learner, literal), "finished")

    def test_finished_at_once(self):
        for formula in (ONE, (1, ((),)), (3, ((), (1, 2))), chain_formula(40)):
            learner = Learner(formula)
            self.assertIs(learner.finished(), True)
            self.assertIsNone(learner.knows())
            self.assertEqual(self.assume(formula, learner, 1), "finished")
            self.assertEqual((learner.learned(), learner.assumptions()), ([], []))
        learner = Learner((0, ((),)))
        self.assertEqual((learner.finished(), learner.knows(), learner.learned()), (True, None, []))
        learner = Learner((0, ()))
        self.assertEqual((learner.finished(), learner.knows(), learner.learned()), (False, (), []))

    def test_finished_by_learning(self):
        learner = Learner(ALL_TWO)
        self.assertEqual(self.assume(ALL_TWO, learner, -2), "conflict")
        for literal in (1, -1, 2, -2):
            self.assertEqual(self.assume(ALL_TWO, learner, literal), "finished")
        self.assertEqual(learner.learned(), [(2,)])

    def test_known_without_assumptions(self):
        formula = (3, ((-1, 2), (1,)))
        learner = Learner(formula)
        self.assertEqual(learner.knows(), (1, 2))
        self.assertEqual(self.assume(formula, learner, 2), "known")
        self.assertEqual(self.assume(formula, learner, -1), "contrary")
        self.assertEqual(learner.assumptions(), [])
        self.assertEqual(self.assume(formula, learner, -3), "open")
        self.assertEqual(self.assume(formula, learner, -3), "known")
        self.assertEqual(learner.assumptions(), [-3])
        self.assertEqual(learner.knows(), (-3, 1, 2))

    def test_what_is_left_of_the_assumptions(self):
        # The first and the third one cannot be together, the second one has nothing to do with it.
        formula = (4, ((-3, -1, 4), (-4, -3, -1)))
        learner = Learner(formula)
        for literal in (1, 2):
            self.assertEqual(self.assume(formula, learner, literal), "open")
        self.assertEqual(self.assume(formula, learner, 3), "conflict")
        self.assertEqual(learner.learned(), [(-3, -1)])
        self.assertEqual(learner.assumptions(), [1, 2])
        self.assertEqual(learner.knows(), (-3, 1, 2))

    def test_several_are_taken_back(self):
        # Without 3 nothing is wrong with 1 and 2, but -3 is wrong with 2 alone.
        formula = (5, ((-4, -3), (-3, 4), (-2, 3, 5), (-5, -2, 3)))
        learner = Learner(formula)
        for literal in (1, 2):
            self.assertEqual(self.assume(formula, learner, literal), "open")
        self.assertEqual(self.assume(formula, learner, 3), "conflict")
        self.assertEqual(learner.learned(), [(-3,)])
        self.assertEqual(learner.assumptions(), [1])
        self.assertEqual(learner.knows(), (-3, 1))

    def test_a_clause_of_one_literal(self):
        formula = (4, ((-4, -3), (-4, 3), (1, 2)))
        learner = Learner(formula)
        for literal in (-1, -3):
            self.assertEqual(self.assume(formula, learner, literal), "open")
        self.assertEqual(learner.knows(), (-4, -3, -1, 2))
        learner = Learner(formula)
        self.assertEqual(self.assume(formula, learner, -1), "open")
        self.assertEqual(self.assume(formula, learner, 4), "conflict")
        self.assertEqual(learner.learned(), [(-4,)])
        self.assertEqual(learner.assumptions(), [-1])

    def test_lists_are_new(self):
        formula = (3, ((-3, -2, -1), (-2, -1, 3)))
        learner = Learner(formula)
        learner.assume(1)
        learner.assume(2)
        learner.assumptions().append(3)
        learner.learned().append((3,))
        learner.learned().clear()
        self.assertEqual((learner.assumptions(), learner.learned()), ([1], [(-2, -1)]))
        for method in (learner.assumptions, learner.learned):
            self.assertIs(type(method()), list)
            self.assertIsNot(method(), method())

    def test_learners_are_apart(self):
        first, second = Learner(ALL_THREE), Learner(ALL_THREE)
        first.assume(1)
        self.assertEqual(second.assumptions(), [])
        first.assume(2)
        self.assertEqual((second.assumptions(), second.learned(), len(first.learned())), ([], [], 1))

    def wide_formulas(self, source):
        """Formulas without short clauses, for which something has to be assumed."""
        for _ in range(150):
            n = source.randint(3, 5)
            clauses = [clause for clause in oracles.cubes(n) if len(clause) == 3 or (len(clause) == 2 and source.random() < 0.1)]
            yield (n, tuple(sorted(source.sample(clauses, min(len(clauses), source.randint(8, 30))))))

    def test_random(self):
        source = random.Random(36)
        for formula in list(oracles.random_formulas(331, 60, 5, 16, 4)) + list(self.wide_formulas(source)):
            before = copy.deepcopy(formula)
            learner = Learner(formula)
            for _ in range(30):
                self.assume(formula, learner, source.choice((1, -1)) * source.randint(1, formula[0]))
            self.assertEqual(formula, before)
            if learner.finished():
                log = tuple(learner.learned()) + ((),)
                self.assertTrue(oracles.plain_is_log(formula, log))
                self.assertIs(is_log(formula, log), True)
        self.assertTrue(all(self.words[word] > 60 for word in ("finished", "known", "contrary", "conflict", "open")), self.words)

    def test_every_order(self):
        for literals in itertools.permutations((1, -2, 3)):
            learner = Learner(ALL_THREE)
            for literal in literals * 3:
                self.assume(ALL_THREE, learner, literal)


class Learn(unittest.TestCase):
    def check_learn(self, formula):
        before = copy.deepcopy(formula)
        found = learn(formula)
        self.assertIs(type(found), tuple)
        word, data = found
        if formula[0] <= 9 and oracles.models(formula):
            self.assertEqual(word, "model")
            self.assertIn(data, oracles.models(formula))
        else:
            self.assertEqual(word, "log")
            self.assertIs(is_log(formula, data), True)
            self.assertTrue(oracles.plain_is_log(formula, data))
        self.assertEqual(formula, before)

    def test_examples(self):
        self.assertEqual(learn((0, ())), ("model", ()))
        self.assertEqual(learn((0, ((),))), ("log", ((),)))
        self.assertEqual(learn((1, ((1,),))), ("model", (1,)))
        self.assertEqual(learn((1, ((-1,),))), ("model", (-1,)))
        self.assertEqual(learn(ONE), ("log", ((),)))
        self.assertIn(learn((1, ())), (("model", (1,)), ("model", (-1,))))

    def test_brute_force(self):
        for formula in list(oracles.all_formulas(1)) + list(oracles.all_formulas(2)):
            self.check_learn(formula)
        for formula in oracles.random_formulas(333, 200, 5, 16, 4):
            self.check_learn(formula)
        for formula in oracles.random_refutable(334, 80, 5, 16, 4):
            self.check_learn(formula)

    def test_families(self):
        for formula in (chain_formula(40), pigeon_formula(3, 2), pigeon_formula(4, 3), order_formula(4), ALL_THREE,
                        parity_formula(4, [(0, 1), (1, 2), (2, 3), (0, 3), (0, 2)], [1]), pigeon_formula(3, 3)):
            self.check_learn(formula)

    def test_many_variables(self):
        word, cube = learn((40, ((-40, -1), (1, 40), (7,))))
        self.assertEqual((word, len(cube), 7 in cube, (1 in cube) != (40 in cube)), ("model", 40, True, True))
