"""The examples of the interface, as they stand in the document."""

import doctest
import unittest

EXAMPLES = r"""
>>> from rebut.clauses import made_formula
>>> made_formula(2, [[2, -1, 2], [1], [1, -1]])
(2, ((-1, 2), (1,)))

>>> from rebut.clauses import restricted
>>> restricted((2, ((-1, 2), (1,))), (1,))
(2, ((2,),))

>>> from rebut.clauses import forced
>>> forced((3, ((-1, 2), (-2, 3))), (1,))
(1, 2, 3)

>>> from rebut.texts import write_formula
>>> write_formula((2, ((), (-1, 2))))
'formula 2\n0\n-1 2 0\n'

>>> from rebut.families import chain_formula
>>> chain_formula(2)
(2, ((-2,), (-1, 2), (1,)))

>>> from rebut.families import pigeon_formula
>>> pigeon_formula(2, 1)
(2, ((-2, -1), (1,), (2,)))

>>> from rebut.families import parity_formula
>>> parity_formula(2, [(0, 1)], [0])
(1, ((-1,), (1,)))

>>> from rebut.families import order_formula
>>> order_formula(2)
(1, ((-1,), (1,)))

>>> from rebut.resolution import clauses_of
>>> clauses_of((2, ((-2,), (-1, 2), (1,))), (("axiom", 2), ("axiom", 1), ("resolve", 0, 1, 1)))
[(1,), (-1, 2), (2,)]

>>> from rebut.resolution import is_refutation
>>> is_refutation((1, ((-1,), (1,))), (("axiom", 1), ("axiom", 0), ("resolve", 0, 1, 1)))
True

>>> from rebut.solving import solve
>>> solve((1, ((1,),)))
('model', (1,))

>>> from rebut.trees import is_tree
>>> is_tree((1, ((-1,), (1,))), ("ask", 1, ("leaf", 1), ("leaf", 0)))
True

>>> from rebut.trees import tree_rank
>>> tree_rank(("ask", 1, ("leaf", 1), ("leaf", 0)))
1

>>> from rebut.tables import is_table
>>> is_table((1, ((-1,), (1,))), "depth", (((), 1),))
True

>>> from rebut.papers import check
>>> check((1, ((-1,), (1,))), ("depth", 0), ("no", (((), 1),)))
True

>>> from rebut.papers import check
>>> check((1, ((-1,), (1,))), ("leaves", 2), ("yes", ("ask", 1, ("leaf", 1), ("leaf", 0))))
True

>>> from rebut.widths import saturated
>>> saturated((2, ((-1, 2), (1, 2))), 2)
((-1, 2), (1, 2), (2,))

>>> from rebut.widths import family_of
>>> family_of((1, ()), 0, ())
((), (-1,), (1,))

>>> from rebut.papers import check
>>> check((2, ((-2, -1), (-2, 1), (-1, 2), (1, 2))), ("width", 1), ("no", ()))
True

>>> from rebut.polynomials import times
>>> times(((), (1,)), ((1,),))
()

>>> from rebut.polynomials import clause_polynomial
>>> clause_polynomial((-2, 1))
((1, 2), (2,))

>>> from rebut.calculus import refutes
>>> refutes((1, ((-1,), (1,))), (("axiom", 0), ("axiom", 1), ("add", 0, 1)))
True

>>> from rebut.statics import is_static
>>> is_static((1, ((-1,), (1,))), (((),), ((),)))
True

>>> from rebut.papers import check
>>> check((1, ((-1,), (1,))), ("static", 0), ("no", ((),)))
True

>>> from rebut.planes import inequalities_of
>>> inequalities_of((2, ((-2, 1),)), (("axiom", 0), ("high", 1), ("add", 0, 1)))
[((1, -1), 0), ((-1, 0), -1), ((0, -1), -1)]

>>> from rebut.planes import excludes
>>> excludes((1, ((-1,), (1,))), (("axiom", 0), ("axiom", 1), ("add", 0, 1)))
True

>>> from rebut.translations import factors_of_tree
>>> factors_of_tree((1, ((-1,), (1,))), ("ask", 1, ("leaf", 1), ("leaf", 0)))
(((),), ((),))

>>> from rebut.sides import interpolant
>>> interpolant((1, ((-1,), (1,))), (0,), (("axiom", 1), ("axiom", 0), ("resolve", 0, 1, 1)))
(('true',), ('false',), ('choose', 1, 0, 1))

>>> from rebut.sides import half
>>> half((1, ((-1,), (1,))), (0,), (("axiom", 1), ("axiom", 0), ("resolve", 0, 1, 1)), (1,))
(1, (('axiom', 0),))

>>> from rebut.numbers import numbers
>>> numbers((1, ((-1,), (1,))))["leaves"]
2

>>> from rebut.books import book_faults
>>> book_faults("formula 1\n-1 0\n1 0\n? (depth 1)\n! (yes (ask 1 (leaf 1) (leaf 0)))\n? (depth 0)\n! (no ())\n")
[1]

>>> from rebut.desk import Desk
>>> d = Desk(1)
>>> d.add([1])
True
>>> d.add([1, -1])
False

>>> from rebut.logs import is_log
>>> is_log((2, ((-2, -1), (-2, 1), (-1, 2), (1, 2))), ((1,), ()))
True

>>> from rebut.learning import Learner
>>> learner = Learner((2, ((-2, -1), (-2, 1), (-1, 2), (1, 2))))
>>> learner.assume(1)
'conflict'
>>> (learner.learned(), learner.finished())
([(-1,)], True)

>>> from rebut.graphs import graph_of_tree
>>> graph_of_tree(("ask", 1, ("leaf", 1), ("leaf", 0)))
(('leaf', 1), ('leaf', 0), ('ask', 1, 0, 1))

>>> from rebut.memory import row_of_steps
>>> row_of_steps((1, ((-1,), (1,))), (("axiom", 1), ("axiom", 0), ("resolve", 0, 1, 1)))
(('load', 1), ('load', 0), ('infer', (1,), (-1,), 1))

>>> from rebut.memory import memories
>>> memories((1, ((-1,), (1,))), (("load", 1), ("erase", (1,))))
[[(1,)], []]

>>> from rebut.sums import implied
>>> implied([((1, 2), 1), ((2,), 1)], ((1,), 0))
True

>>> from rebut.sums import sums_of_tree
>>> sums_of_tree(("ask", 1, ("leaf", 1), ("leaf", 0)))
('sum', (1,), ('leaf', 1), ('leaf', 0))

>>> from rebut.known import chain_tree
>>> chain_tree(1)
('ask', 1, ('leaf', 1), ('leaf', 0))

>>> from rebut.rising import rising_interpolant
>>> rising_interpolant((1, ((-1,), (1,))), (1,), (("axiom", 1), ("axiom", 0), ("resolve", 0, 1, 1)))
(('false',), ('true',), ('need', 1, 0, 1))

>>> from rebut.reports import write_report
>>> write_report((1, ((-1,), (1,))), (("axiom", 1), ("axiom", 0), ("resolve", 0, 1, 1)))
'0: x1 clause 1\n1: ~x1 clause 0\n2: false from 0 and 1 by 1\n'

>>> from rebut.console import run_console
>>> run_console("variables 1\nadd 1\nadd -1\nsolve\nnumber depth\nis leaves 1\n")
'added\nadded\nno model\n1\nno\n'
"""


class Examples(unittest.TestCase):
    def test_all(self):
        examples = doctest.DocTestParser().get_doctest(EXAMPLES, {}, "examples", None, 0)
        told = []
        found = doctest.DocTestRunner(verbose=False).run(examples, out=told.append)
        self.assertEqual(found.failed, 0, "".join(told))
        self.assertEqual(found.attempted, 90)
