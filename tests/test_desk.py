import random
import unittest

import oracles
from rebut.clauses import is_formula, made_formula
from rebut.desk import Desk
from rebut.errors import BadFormula, HasModel
from rebut.families import chain_formula, order_formula, pigeon_formula
from rebut.resolution import is_refutation


def desk_of(formula):
    desk = Desk(formula[0])
    for clause in formula[1]:
        desk.add(list(clause))
    return desk


def named(formula, steps):
    """The steps with clauses in place of the indexes of axioms."""
    return tuple(("axiom", formula[1][step[1]]) if step[0] == "axiom" else step for step in steps)


class Changes(unittest.TestCase):
    def test_examples(self):
        desk = Desk(1)
        self.assertIs(desk.add([1]), True)
        self.assertIs(desk.add([1, -1]), False)
        self.assertEqual(desk.formula(), (1, ((1,),)))

    def test_numbers_of_variables(self):
        for n in (-1, 41, -41, 10 ** 30, -10 ** 30):
            with self.assertRaises(BadFormula):
                Desk(n)
        for n in range(41):
            self.assertEqual(Desk(n).formula(), (n, ()))

    def test_no_variables(self):
        desk = Desk(0)
        self.assertEqual(desk.model(), ())
        for literals in ([1], [-1], [0]):
            with self.assertRaises(BadFormula):
                desk.add(literals)
        self.assertIs(desk.add([]), True)
        self.assertIs(desk.add([]), False)
        self.assertEqual(desk.formula(), (0, ((),)))
        self.assertIsNone(desk.model())
        self.assertEqual(desk.core(), [0])
        self.assertEqual(desk.steps(), (("axiom", 0),))

    def test_add(self):
        desk = Desk(3)
        self.assertIs(desk.add([3, -1, 3, 2, -1]), True)
        self.assertEqual(desk.formula(), (3, ((-1, 2, 3),)))
        for literals in ([-1, 2, 3], [3, 2, -1], [2, 2, 3, -1, -1], [1, -1], [2, 3, -2], [-3, 3, -3], [-1, 2, 3, 1]):
            self.assertIs(desk.add(literals), False)
            self.assertEqual(desk.formula(), (3, ((-1, 2, 3),)))
        self.assertIs(desk.add([3]), True)
        self.assertIs(desk.add([]), True)
        self.assertIs(desk.add([]), False)
        self.assertEqual(desk.formula(), (3, ((), (-1, 2, 3), (3,))))

    def test_wrong_literals(self):
        desk = desk_of((2, ((-2, 1), (2,))))
        for literals in ([0], [3], [-3], [1, 0], [0, 1], [1, -1, 0], [1, -1, 3], [3, -3], [2, -2, -3], [10 ** 20], [1, -(10 ** 20)],
                         [2, 3], [0, 0]):
            before = list(literals)
            with self.assertRaises(BadFormula):
                desk.add(literals)
            self.assertEqual(literals, before)
            self.assertEqual(desk.formula(), (2, ((-2, 1), (2,))))
        for literals in ([41], [-41], [40, 41]):
            with self.assertRaises(BadFormula):
                Desk(40).add(literals)
        self.assertIs(Desk(40).add([40, -39]), True)

    def test_lists_are_copied(self):
        desk = Desk(3)
        literals = [2, -1, 2]
        desk.add(literals)
        self.assertEqual(literals, [2, -1, 2])
        literals.append(3)
        literals[0] = 1
        self.assertEqual(desk.formula(), (3, ((-1, 2),)))
        desk.add([1])
        desk.add([-2])
        found = desk.core()
        found.append(7)
        self.assertEqual(desk.core(), [0, 1, 2])

    def test_remove(self):
        desk = desk_of((2, ((), (-2,), (1, 2), (2,))))
        for index in (-1, 4, 5, -4, 10 ** 20):
            with self.assertRaises(BadFormula):
                desk.remove(index)
            self.assertEqual(len(desk.formula()[1]), 4)
        self.assertIsNone(desk.remove(1))
        self.assertEqual(desk.formula(), (2, ((), (1, 2), (2,))))
        desk.remove(2)
        desk.remove(0)
        self.assertEqual(desk.formula(), (2, ((1, 2),)))
        with self.assertRaises(BadFormula):
            desk.remove(1)
        desk.remove(0)
        self.assertEqual(desk.formula(), (2, ()))
        for index in (0, -1, 1):
            with self.assertRaises(BadFormula):
                desk.remove(index)
        self.assertIs(desk.add([1]), True)

    def test_formulas_stay(self):
        desk = Desk(2)
        first = desk.formula()
        desk.add([1])
        second = desk.formula()
        desk.remove(0)
        self.assertEqual((first, second, desk.formula()), ((2, ()), (2, ((1,),)), (2, ())))

    def test_desks_are_apart(self):
        first, second = Desk(2), Desk(2)
        first.add([1])
        self.assertEqual(second.formula(), (2, ()))


class Answers(unittest.TestCase):
    def check_core(self, formula, core):
        self.assertIs(type(core), list)
        self.assertEqual(core, sorted(set(core)))
        self.assertTrue(all(0 <= at < len(formula[1]) for at in core))
        self.assertEqual(oracles.models_within(formula, core), [])
        for at in core:
            self.assertTrue(oracles.models_within(formula, [other for other in core if other != at]), (formula, core))

    def check_desk(self, desk):
        """Checks all answers and tells whether there is a model."""
        formula = desk.formula()
        self.assertTrue(is_formula(formula))
        models = oracles.models(formula)
        if models:
            self.assertIn(desk.model(), models)
            for method in (desk.core, desk.steps):
                with self.assertRaises(HasModel):
                    method()
        else:
            self.assertIsNone(desk.model())
            self.check_core(formula, desk.core())
        self.assertEqual(desk.formula(), formula)
        return bool(models)

    def test_after_each_change(self):
        source = random.Random(31)
        for _ in range(60):
            n = source.randint(1, 4)
            desk = Desk(n)
            clauses = set()
            last = None
            for _ in range(25):
                if clauses and source.random() < 0.35:
                    index = source.randrange(len(clauses))
                    desk.remove(index)
                    clauses.discard(sorted(clauses)[index])
                else:
                    literals = [source.choice((1, -1)) * source.randint(1, n) for _ in range(source.choice((1, 1, 2, 2, 3, 4)))]
                    clause = tuple(sorted(set(literals)))
                    wanted = clause not in clauses and not any(-x in clause for x in clause)
                    self.assertIs(desk.add(literals), wanted)
                    if wanted:
                        clauses.add(clause)
                formula = (n, tuple(sorted(clauses)))
                self.assertEqual(desk.formula(), formula)
                if not self.check_desk(desk) and source.random() < 0.8:
                    steps = desk.steps()
                    self.assertIs(is_refutation(formula, steps), True)
                    self.assertEqual(oracles.clauses_of_steps(formula, steps)[-1], ())
                    if last is not None and all(step[1] in clauses for step in last if step[0] == "axiom"):
                        self.assertEqual(named(formula, steps), last)
                    last = named(formula, steps)

    def test_cores_of_families(self):
        for formula in (chain_formula(7), pigeon_formula(3, 2), order_formula(4)):
            self.check_core(formula, desk_of(formula).core())
        self.assertEqual(desk_of(chain_formula(40)).core(), list(range(41)))

    def test_cores_with_more_than_is_needed(self):
        self.assertEqual(desk_of((2, ((), (-1,), (1,)))).core(), [0])
        for formula in oracles.random_refutable(311, 80):
            self.check_core(formula, desk_of(formula).core())
        # With so many clauses, what one refutation uses is often more than what is needed.
        source = random.Random(32)
        clauses = [clause for clause in oracles.cubes(4) if len(clause) in (2, 3)]
        count = 0
        for _ in range(120):
            formula = (4, tuple(sorted(source.sample(clauses, 16))))
            if not oracles.models(formula):
                desk = desk_of(formula)
                self.check_core(formula, desk.core())
                count += len(desk.core()) < len({step for step in desk.steps() if step[0] == "axiom"})
        self.assertGreater(count, 5)

    def test_cores_change(self):
        desk = desk_of((3, ((-3,), (-2, 3), (-1, 2), (1,))))
        self.assertEqual(desk.core(), [0, 1, 2, 3])
        desk.add([-2])
        self.assertIn(desk.core(), ([0, 2, 3, 4], [1, 3, 4]))
        self.check_core(desk.formula(), desk.core())
        desk.remove(desk.formula()[1].index((1,)))
        with self.assertRaises(HasModel):
            desk.core()


class Steps(unittest.TestCase):
    CHAIN = (3, ((-3,), (-2, 3), (-1, 2), (1,)))

    def test_indexes_move(self):
        desk = desk_of(self.CHAIN)
        first = desk.steps()
        self.assertIs(type(first), tuple)
        self.assertIs(is_refutation(self.CHAIN, first), True)
        self.assertEqual(desk.steps(), first)
        # Refutations with fewer steps become possible, but the last one is still one.
        for literals in ([-3, -2, -1], [-1], [2], []):
            desk.add(literals)
            again = desk.steps()
            self.assertEqual(named(desk.formula(), again), named(self.CHAIN, first))
            self.assertIs(is_refutation(desk.formula(), again), True)
        self.assertNotEqual(again, first)

    def test_other_clauses_are_removed(self):
        desk = desk_of((3, ((-3,), (-2, 3), (-1, 2), (1,))))
        first = named(desk.formula(), desk.steps())
        for literals in ([], [-3, -2], [1, 2]):
            desk.add(literals)
        for clause in ((-3, -2), (), (1, 2)):
            desk.remove(desk.formula()[1].index(clause))
            self.assertEqual(named(desk.formula(), desk.steps()), first)

    def test_own_clauses_are_removed(self):
        for clause in self.CHAIN[1]:
            desk = desk_of(self.CHAIN)
            first = named(desk.formula(), desk.steps())
            desk.remove(desk.formula()[1].index(clause))
            with self.assertRaises(HasModel):
                desk.steps()
            # The last refutation that was returned is one again.
            desk.add(list(clause))
            self.assertEqual(named(desk.formula(), desk.steps()), first)
            desk.add([])
            self.assertEqual(named(desk.formula(), desk.steps()), first)

    def test_another_one_takes_its_place(self):
        desk = desk_of(self.CHAIN)
        desk.steps()
        desk.remove(0)
        desk.add([])
        self.assertEqual(desk.steps(), (("axiom", 0),))
        desk.add([-3])
        # It is the last one that is returned, although the first one is a refutation again, too.
        self.assertEqual(desk.steps(), (("axiom", 0),))
        desk.remove(0)
        self.assertIs(is_refutation(desk.formula(), desk.steps()), True)

    def test_models_without_a_last_one(self):
        desk = Desk(1)
        for _ in range(2):
            with self.assertRaises(HasModel):
                desk.steps()
        desk.add([1])
        desk.add([-1])
        self.assertIs(is_refutation((1, ((-1,), (1,))), desk.steps()), True)

    def test_core_and_model_change_nothing(self):
        desk = desk_of(self.CHAIN)
        first = desk.steps()
        desk.core()
        desk.model()
        self.assertEqual(desk.steps(), first)
        desk.add([1, 2, 3])
        desk.core()
        self.assertEqual(named(desk.formula(), desk.steps()), named(self.CHAIN, first))

    def test_made_formula(self):
        for formula in oracles.random_refutable(312, 60):
            desk = desk_of(formula)
            self.assertEqual(desk.formula(), made_formula(formula[0], [list(clause) for clause in formula[1]]))
            self.assertIs(is_refutation(formula, desk.steps()), True)
