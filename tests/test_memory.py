import copy
import random
import unittest

import oracles
from rebut.errors import WrongStep
from rebut.families import chain_formula, order_formula, parity_formula, pigeon_formula
from rebut.memory import is_row, memories, row_of_steps, row_of_tree, row_space, steps_of_row
from rebut.papers import decide
from rebut.resolution import is_refutation, strict_steps
from rebut.solving import solve
from rebut.trees import tree_rank

ONE = (1, ((-1,), (1,)))
ALL_TWO = (2, ((-2, -1), (-2, 1), (-1, 2), (1, 2)))
ROW = (("load", 1), ("load", 0), ("infer", (1,), (-1,), 1))


def plain_memories(formula, row):
    """The memories after right moves, as sets, or None if a move is not right; the moves have the right form."""
    memory = set()
    found = []
    for move in row:
        if move[0] == "load":
            if not 0 <= move[1] < len(formula[1]):
                return None
            memory = memory | {formula[1][move[1]]}
        elif move[0] == "erase":
            if move[1] not in memory:
                return None
            memory = memory - {move[1]}
        else:
            _, first, second, v = move
            rest = (set(first) - {v}) | (set(second) - {-v})
            if not {first, second} <= memory or v not in first or -v not in second or any(-x in rest for x in rest):
                return None
            memory = memory | {tuple(sorted(rest - {v, -v}))}
        found.append(memory)
    return found


def random_row(source, formula, count=60):
    """A row of right moves."""
    row = []
    memory = set()
    for _ in range(count):
        moves = [("load", source.randrange(len(formula[1])))] * 3
        moves += [("erase", clause) for clause in sorted(memory)][:2]
        for first in memory:
            for second in memory:
                for v in first:
                    rest = (set(first) | set(second)) - {v, -v}
                    if v > 0 and -v in second and not any(-x in rest for x in rest):
                        moves += [("infer", first, second, v)] * 2
        move = source.choice(sorted(moves, key=repr))
        row.append(move)
        memory = plain_memories(formula, row)[-1]
    return tuple(row)


def some_trees():
    source = random.Random(40)
    yield ONE, ("ask", 1, ("leaf", 1), ("leaf", 0))
    yield (0, ((),)), ("leaf", 0)
    yield (2, ((), (1,))), ("ask", 2, ("leaf", 0), ("ask", 1, ("leaf", 1), ("leaf", 0)))
    for formula in oracles.random_refutable(351, 100, 5, 16, 4):
        for late in (0.0, 0.3, 0.8):
            yield formula, oracles.random_tree(source, formula, (), late)
        for kind, k in (("depth", 5), ("rank", 5), ("leaves", 32)):
            yield formula, decide(formula, (kind, k))[1]
    for formula in (chain_formula(8), pigeon_formula(3, 2), order_formula(4), parity_formula(3, [(0, 1), (1, 2), (0, 2)], [0])):
        yield formula, decide(formula, ("depth", formula[0]))[1]


class Memories(unittest.TestCase):
    def wrong_at(self, formula, row, index):
        for function in (memories, row_space):
            with self.assertRaises(WrongStep) as caught:
                function(formula, row)
            self.assertEqual(caught.exception.index, index, row)
        self.assertIs(is_row(formula, row), False)

    def test_examples(self):
        self.assertEqual(memories(ONE, (("load", 1), ("erase", (1,)))), [[(1,)], []])
        self.assertEqual(memories(ONE, ROW), [[(1,)], [(-1,), (1,)], [(), (-1,), (1,)]])
        self.assertEqual(memories(ONE, ()), [])
        self.assertIs(is_row(ONE, ROW), True)
        self.assertEqual(row_space(ONE, ROW), 3)

    def test_the_empty_row(self):
        for formula in (ONE, (0, ()), (0, ((),))):
            self.assertEqual(memories(formula, ()), [])
            self.assertEqual(row_space(formula, ()), 0)
            self.assertIs(is_row(formula, ()), False)

    def test_loading_what_is_there(self):
        row = (("load", 1), ("load", 1), ("erase", (1,)), ("load", 1), ("erase", (1,)), ("load", 0))
        self.assertEqual(memories(ONE, row), [[(1,)], [(1,)], [], [(1,)], [], [(-1,)]])
        self.assertEqual(row_space(ONE, row), 1)
        self.wrong_at(ONE, (("load", 1), ("load", 1), ("erase", (1,)), ("erase", (1,))), 3)

    def test_inferring_what_is_there(self):
        formula = (2, ((), (-1,), (1,)))
        row = (("load", 0), ("load", 1), ("load", 2), ("infer", (1,), (-1,), 1), ("infer", (1,), (-1,), 1))
        self.assertEqual(memories(formula, row)[-1], [(), (-1,), (1,)])
        self.assertEqual(row_space(formula, row), 3)

    def test_wrong_moves(self):
        start = (("load", 0), ("load", 3), ("load", 1))
        self.assertEqual(memories(ALL_TWO, start)[-1], [(-2, -1), (-2, 1), (1, 2)])
        right = ("infer", (1, 2), (-2, 1), 2)
        self.assertEqual(memories(ALL_TWO, start + (right,))[-1], [(-2, -1), (-2, 1), (1,), (1, 2)])
        for move in ((), ("load",), ("erase",), ("infer",), ("load", 0, 0), ("erase", (1, 2), 0), right + (2,), right[:3], right[:2],
                     ("put", 0), ("Load", 0), ("loads", 0), ("", 0), (b"load", 0), (0, 0), (None,), (("load", 0),), (1,),
                     ("load", 4), ("load", -1), ("load", True), ("load", False), ("load", None), ("load", 1.0), ("load", "1"), ("load", (1,)),
                     ("load", (1, 2)), ("load", 10 ** 30), ("erase", (-1, 2)), ("erase", ()), ("erase", [1, 2]), ("erase", (2, 1)), ("erase", 0),
                     ("erase", (True, 2)), ("erase", None), ("erase", (1, 3)), ("erase", ((1, 2),)), ("erase", "12"),
                     ("infer", (-1, 2), (-2, 1), 2), ("infer", (1, 2), (-1, 2), 1), ("infer", (-2, 1), (1, 2), 2), ("infer", (1, 2), (-2, -1), 2),
                     ("infer", (1, 2), (-2, -1), 1), ("infer", (1, 2), (-2, 1), 1), ("infer", (1, 2), (-2, 1), 0), ("infer", (1, 2), (-2, 1), -2),
                     ("infer", (1, 2), (-2, 1), 3), ("infer", (1, 2), (-2, 1), True), ("infer", (1, 2), (-2, 1), 2.0), ("infer", (-2, 1), (-2, -1), True),
                     ("infer", (1, 2), (-2, 1), "2"), ("infer", (1, 2), (-2, 1), None), ("infer", [1, 2], (-2, 1), 2), ("infer", (1, 2), [-2, 1], 2),
                     ("infer", (2, 1), (-2, 1), 2), ("infer", (1, 2), (1, -2), 2), ("infer", 3, 1, 2), ("infer", None, (-2, 1), 2),
                     ("infer", (True, 2), (-2, 1), 2), ("infer", (), (), 2), ("infer", (1,), (-1,), 1), ("resolve", 1, 2, 2), ("axiom", 0)):
            self.wrong_at(ALL_TWO, start + (move,), 3)
            self.wrong_at(ALL_TWO, start + (move, right), 3)
            self.wrong_at(ALL_TWO, start + (right, move, ()), 4)
            self.wrong_at((2, ()), (move,), 0)
            self.wrong_at(ALL_TWO, (move, ("load", 9)), 0)

    def test_clauses_that_have_been_erased(self):
        self.wrong_at(ONE, (("load", 1), ("load", 0), ("erase", (1,)), ("infer", (1,), (-1,), 1)), 3)
        self.wrong_at(ONE, (("load", 1), ("load", 0), ("erase", (-1,)), ("infer", (1,), (-1,), 1)), 3)
        self.assertIs(is_row(ONE, (("load", 1), ("load", 0), ("erase", (-1,)), ("load", 0), ("infer", (1,), (-1,), 1))), True)

    def test_opposite_literals(self):
        formula = (3, ((-3, -2, 1), (2, 3)))
        self.wrong_at(formula, (("load", 0), ("load", 1), ("infer", (2, 3), (-3, -2, 1), 2)), 2)
        self.wrong_at(formula, (("load", 0), ("load", 1), ("infer", (2, 3), (-3, -2, 1), 3)), 2)

    def test_any_items(self):
        for value in oracles.strange_values():
            if type(value) is tuple and repr(value) not in ("('load', 0)", "('load', 1)"):
                self.wrong_at(ONE, ROW + (value,), 3)
            for move in (("load", value), ("erase", value), ("infer", value, (-1,), 1), ("infer", (1,), value, 1),
                         ("infer", (1,), (-1,), value), (value, 1), (value, (1,))):
                right = repr(move) in ("('load', 0)", "('load', 1)", "('erase', (1,))", "('erase', (-1,))", "('infer', (1,), (-1,), 1)")
                if not right:
                    self.wrong_at(ONE, ROW + (move, ()), 3)
        for move in (("load", 1), ("erase", (1,)), ROW[2]):
            self.assertEqual(len(memories(ONE, ROW + (move,))), 4)

    def test_random(self):
        source = random.Random(41)
        for formula in oracles.random_formulas(352, 80):
            if formula[1]:
                row = random_row(source, formula, 40)
                before = copy.deepcopy((formula, row))
                wanted = plain_memories(formula, row)
                found = memories(formula, row)
                self.assertEqual(found, [sorted(memory) for memory in wanted])
                self.assertTrue(type(found) is list and all(type(memory) is list for memory in found))
                self.assertEqual(row_space(formula, row), max(len(memory) for memory in wanted))
                self.assertIs(is_row(formula, row), () in wanted[-1])
                if () in wanted[-1]:
                    self.assertEqual(oracles.models(formula), [])
                for at in range(1, len(row)):
                    self.assertIs(is_row(formula, row[:at]), () in wanted[at - 1])
                self.assertEqual(before, (formula, row))

    def test_new_lists(self):
        found = memories(ONE, ROW + (("load", 0),))
        for memory in found:
            memory.append(0)
        self.assertEqual([len(memory) for memory in found], [2, 3, 4, 4])
        self.assertEqual(memories(ONE, ROW)[-1], [(), (-1,), (1,)])


class IsRow(unittest.TestCase):
    def test_right_ones(self):
        self.assertIs(is_row((0, ((),)), (("load", 0),)), True)
        self.assertIs(is_row(ONE, ROW + (("erase", (1,)), ("erase", (-1,)))), True)
        self.assertIs(is_row(ONE, ROW + (("load", 0), ROW[2])), True)

    def test_the_empty_clause_erased_again(self):
        gone = ROW + (("erase", ()),)
        self.assertIs(is_row(ONE, gone), False)
        self.assertEqual(memories(ONE, gone)[-1], [(-1,), (1,)])
        self.assertIs(is_row(ONE, gone + (ROW[2],)), True)
        self.assertIs(is_row((0, ((),)), (("load", 0), ("erase", ()))), False)
        self.assertIs(is_row((0, ((),)), (("load", 0), ("erase", ()), ("load", 0))), True)

    def test_wrong_ones(self):
        for row in (ROW[:2], ROW[1:], ROW[:1] + ROW[2:], list(ROW), (list(ROW[0]),) + ROW[1:], ROW + (None,), ROW + ((),), ROW[2:],
                    ROW[0], ((ROW,),), (ROW,), ROW + (("erase", (2,)),), (None,), ((),), [], "", 0, None, True):
            self.assertIs(is_row(ONE, row), False, row)

    def test_any_value(self):
        for value in oracles.strange_values():
            for row in (value, (value,), ROW[:2] + (value,), (value,) + ROW, ROW[:1] + (value,) + ROW[1:],
                        ROW[:2] + (("infer", value, (-1,), 1),), ROW[:2] + (("infer", (1,), (-1,), value),), (("load", value),),
                        (("load", value),) + ROW[1:]):
                self.assertIs(is_row(ONE, row), repr(row) == repr(ROW), repr(row))
            self.assertIs(is_row((0, ()), value), False)


class RowOfTree(unittest.TestCase):
    def test_examples(self):
        row = row_of_tree(ONE, ("ask", 1, ("leaf", 1), ("leaf", 0)))
        self.assertIs(is_row(ONE, row), True)
        self.assertEqual(row_space(ONE, row), 3)
        self.assertEqual(row_of_tree((0, ((),)), ("leaf", 0)), (("load", 0),))

    def test_many(self):
        ranks = {}
        for formula, tree in some_trees():
            before = copy.deepcopy((formula, tree))
            row = row_of_tree(formula, tree)
            self.assertIs(type(row), tuple)
            self.assertIs(is_row(formula, row), True, (formula, tree))
            wanted = plain_memories(formula, row)
            self.assertIn((), wanted[-1])
            self.assertLessEqual(max(len(memory) for memory in wanted), 2 + tree_rank(tree), (formula, tree))
            ranks[tree_rank(tree)] = True
            self.assertEqual(before, (formula, tree))
        self.assertTrue({0, 1, 2, 3, 4} <= set(ranks))

    def test_the_greater_rank_first(self):
        # A chain has a rank of 1, whichever side the long tree is on, and equal ranks have one more.
        for n in (2, 5, 20, 40):
            formula = chain_formula(n)
            at = {clause: ("leaf", index) for index, clause in enumerate(formula[1])}
            down = at[(1,)]
            for i in range(1, n):
                down = ("ask", i, at[(1,)] if i == 1 else down, at[(-i, i + 1)])
            down = ("ask", n, down, at[(-n,)])
            up = ("ask", n, at[(-n + 1, n)], at[(-n,)])
            for i in range(n - 1, 0, -1):
                up = ("ask", i, at[(-i + 1, i)] if i > 1 else at[(1,)], up)
            for tree in (down, up):
                self.assertEqual(tree_rank(tree), 1)
                row = row_of_tree(formula, tree)
                self.assertIs(is_row(formula, row), True)
                self.assertLessEqual(row_space(formula, row), 3)
        for d in range(1, 8):
            formula = (d, tuple(clause for clause in oracles.cubes(d) if len(clause) == d))
            tree = oracles.random_tree(random.Random(42), formula, (), 0)
            row = row_of_tree(formula, tree)
            self.assertIs(is_row(formula, row), True)
            self.assertLessEqual(row_space(formula, row), d + 2)

    def test_questions_that_are_not_needed(self):
        formula = (3, ((-1,), (1,)))
        part = ("ask", 1, ("leaf", 1), ("leaf", 0))
        tree = ("ask", 2, ("ask", 3, part, part), part)
        row = row_of_tree(formula, tree)
        self.assertIs(is_row(formula, row), True)
        self.assertLessEqual(row_space(formula, row), 4)
        tree = ("ask", 1, ("ask", 2, ("leaf", 1), ("ask", 3, ("leaf", 1), ("leaf", 1))), ("leaf", 0))
        row = row_of_tree(formula, tree)
        self.assertIs(is_row(formula, row), True)
        self.assertLessEqual(row_space(formula, row), 2 + tree_rank(tree))


class RowsAndSteps(unittest.TestCase):
    def refutations(self):
        for formula, steps in oracles.random_refutations(353, 60):
            yield formula, strict_steps(formula, steps)
            if all(step[0] != "weaken" for step in steps):
                yield formula, steps
        for formula in oracles.random_refutable(354, 60, 5, 16, 4):
            yield formula, solve(formula)[1]

    def test_row_of_steps(self):
        self.assertEqual(row_of_steps(ONE, (("axiom", 1), ("axiom", 0), ("resolve", 0, 1, 1))), ROW)
        self.assertEqual(row_of_steps((0, ((),)), (("axiom", 0),)), (("load", 0),))
        steps = (("axiom", 1), ("axiom", 1), ("axiom", 0), ("resolve", 1, 2, 1), ("axiom", 0), ("resolve", 0, 4, 1))
        self.assertEqual(row_of_steps(ONE, steps), (("load", 1), ("load", 1), ("load", 0), ROW[2], ("load", 0), ROW[2]))
        for formula, steps in self.refutations():
            before = copy.deepcopy((formula, steps))
            clauses = oracles.clauses_of_steps(formula, steps)
            row = row_of_steps(formula, steps)
            self.assertIs(type(row), tuple)
            self.assertEqual(row, tuple(("load", step[1]) if step[0] == "axiom" else
                                        ("infer", clauses[step[1]], clauses[step[2]], step[3]) for step in steps))
            self.assertIs(is_row(formula, row), True)
            self.assertEqual(row_space(formula, row), len(set(clauses)))
            self.assertEqual(before, (formula, steps))

    def plain_steps(self, formula, row):
        """The steps of a row, by the words of the document."""
        steps, clauses = [], []
        for move in row:
            if move[0] == "erase":
                continue
            if move[0] == "load":
                steps.append(("axiom", move[1]))
                clauses.append(formula[1][move[1]])
            else:
                places = [max(at for at, other in enumerate(clauses) if other == clause) for clause in move[1:3]]
                steps.append(("resolve", *places, move[3]))
                clauses.append(tuple(sorted((set(move[1]) | set(move[2])) - {move[3], -move[3]})))
            if clauses[-1] == ():
                return tuple(steps)

    def check_row(self, formula, row):
        before = copy.deepcopy((formula, row))
        steps = steps_of_row(formula, row)
        self.assertIs(type(steps), tuple)
        self.assertIs(is_refutation(formula, steps), True, (formula, row))
        self.assertEqual(steps, self.plain_steps(formula, row))
        self.assertEqual(before, (formula, row))
        return steps

    def test_steps_of_row(self):
        self.assertEqual(steps_of_row(ONE, ROW), (("axiom", 1), ("axiom", 0), ("resolve", 0, 1, 1)))
        self.assertEqual(steps_of_row((0, ((),)), (("load", 0),)), (("axiom", 0),))
        # What is loaded several times: the last step with the clause counts.
        row = (("load", 1), ("load", 0), ("load", 1), ("erase", (-1,)), ("load", 0), ROW[2])
        self.assertEqual(self.check_row(ONE, row), (("axiom", 1), ("axiom", 0), ("axiom", 1), ("axiom", 0), ("resolve", 2, 3, 1)))
        for formula, tree in some_trees():
            self.check_row(formula, row_of_tree(formula, tree))
        for formula, steps in self.refutations():
            self.check_row(formula, row_of_steps(formula, steps))

    def test_moves_behind_the_empty_clause(self):
        steps = (("axiom", 1), ("axiom", 0), ("resolve", 0, 1, 1))
        for more in ((("erase", (1,)),), (("load", 0),), (ROW[2],), (("erase", ()), ("load", 1), ROW[2]), (("erase", ()), ROW[2], ("load", 0))):
            self.assertIs(is_row(ONE, ROW + more), True)
            self.assertEqual(self.check_row(ONE, ROW + more), steps)
        formula = (1, ((), (-1,), (1,)))
        row = (("load", 2), ("load", 1), ("load", 0), ("infer", (1,), (-1,), 1))
        self.assertEqual(self.check_row(formula, row), (("axiom", 2), ("axiom", 1), ("axiom", 0)))

    def test_random_rows(self):
        source = random.Random(43)
        count = 0
        for formula in oracles.random_refutable(355, 150, 3, 8):
            row = random_row(source, formula, 50)
            if is_row(formula, row):
                count += 1
                self.check_row(formula, row)
        self.assertGreater(count, 40)
