import itertools
import random
import unittest

import oracles
from rebut.clauses import made_formula
from rebut.errors import BadQuestion
from rebut.papers import KINDS, check, decide
from rebut.widths import is_closed, saturated

ONE = (1, ((-1,), (1,)))
ALL_TWO = (2, ((-2, -1), (-2, 1), (-1, 2), (1, 2)))
GREAT = 10 ** 20
SIX = ("depth", "rank", "leaves", "width", "degree", "static")


def first_yes(formula, kind):
    """The least k with the answer yes, or None for a formula with a model."""
    return None if oracles.models(formula) else oracles.least_number(formula, kind)


def truth(least, k):
    return "no" if least is None or k < least else "yes"


class Questions(unittest.TestCase):
    def test_kinds(self):
        self.assertEqual(KINDS, SIX)
        self.assertIs(type(KINDS), tuple)

    def questions(self):
        found = [("depth",), ("depth", 0, 0), (), ("depth", -1), ("depth", True), ("depth", False), ("depth", "0"),
                 ("depth", None), ("depth", 0.0), ("depth", (0,)), ["depth", 0], "depth", ("Depth", 0), ("depth ", 0),
                 ("", 0), ("size", 0), (0, "depth"), (0, 0), (None, 0), (True, 1), (("depth",), 0), (("depth", 0),),
                 (("depth", 0), 0), (b"depth", 0), ("depth", -10 ** 30), ("leaves", "k"), ("width", [1]), {"depth": 0},
                 {"depth", 0}, ("yes", 0), ("space", 1), ("dep", 1), (KINDS, 1), ("depthrank", 1)]
        found += oracles.strange_values()
        for kind in KINDS:
            found += [(kind, value) for value in oracles.strange_values() if repr(value) not in ("0", "1", str(10 ** 40))]
            found += [[kind, 0], (kind,), (kind, 0, 0), (kind, -1), (kind, True), (kind, False), (kind.upper(), 0)]
        found += [(value, 0) for value in oracles.strange_values()]
        return found

    def test_what_is_no_question(self):
        for question in self.questions():
            for formula in (ONE, (1, ()), (0, ((),))):
                with self.assertRaises(BadQuestion):
                    decide(formula, question)
                for paper in (("no", ()), ("yes", ("leaf", 0)), None, oracles.Raising()):
                    with self.assertRaises(BadQuestion):
                        check(formula, question, paper)

    def test_questions(self):
        for kind in KINDS:
            for k in (0, 1, 5, GREAT):
                self.assertIs(type(decide(ONE, (kind, k))), tuple)
                self.assertIs(check(ONE, (kind, k), decide(ONE, (kind, k))), True)


class Papers(unittest.TestCase):
    def test_examples(self):
        tree = ("ask", 1, ("leaf", 1), ("leaf", 0))
        self.assertIs(check(ONE, ("depth", 0), ("no", (((), 1),))), True)
        self.assertIs(check(ONE, ("depth", 1), ("no", (((), 1),))), False)
        self.assertIs(check(ONE, ("leaves", 2), ("yes", tree)), True)
        self.assertIs(check(ONE, ("leaves", 1), ("yes", tree)), False)
        self.assertIs(check(ONE, ("depth", 1), ("yes", tree)), True)
        self.assertIs(check(ONE, ("depth", 0), ("yes", tree)), False)
        self.assertIs(check(ONE, ("rank", 1), ("yes", tree)), True)
        self.assertIs(check(ONE, ("rank", 0), ("yes", tree)), False)
        self.assertIs(check(ALL_TWO, ("width", 1), ("no", ())), True)
        self.assertIs(check(ALL_TWO, ("width", 2), ("no", ())), False)
        self.assertIs(check(ONE, ("static", 0), ("no", ((),))), True)
        self.assertIs(check(ONE, ("leaves", 0), ("no", ())), True)
        self.assertIs(check((0, ((),)), ("leaves", 0), ("no", ())), True)
        self.assertIs(check(ONE, ("depth", 0), ("no", ())), False)
        self.assertIs(check(ONE, ("leaves", 1), ("no", ())), False)
        self.assertIs(check(ONE, ("leaves", 1), ("no", (((), 2),))), True)

    def test_trees_that_measure_differently(self):
        comb = ("ask", 1, ("leaf", 2), ("ask", 2, ("leaf", 1), ("leaf", 0)))
        formula = (2, ((-2,), (-1, 2), (1,)))
        for kind, number in (("depth", 2), ("rank", 1), ("leaves", 3)):
            self.assertIs(check(formula, (kind, number), ("yes", comb)), True)
            self.assertIs(check(formula, (kind, number - 1), ("yes", comb)), False)
        wrong = ("ask", 1, ("leaf", 1), ("ask", 2, ("leaf", 1), ("leaf", 0)))
        self.assertIs(check(formula, ("depth", 5), ("yes", wrong)), False)

    def test_tables_are_for_their_kind(self):
        free = (2, ())
        row = (((), 3), ((-2,), 2), ((1,), 2))
        self.assertIs(check(free, ("leaves", 2), ("no", row)), True)
        self.assertIs(check(free, ("rank", 2), ("no", row)), False)
        self.assertIs(check(free, ("depth", 2), ("no", row)), False)
        deep = (((), 2), ((-2,), 1), ((1,), 1))
        self.assertIs(check(free, ("depth", 1), ("no", deep)), True)
        self.assertIs(check(free, ("depth", 2), ("no", deep)), False)
        self.assertIs(check(free, ("rank", 1), ("no", deep)), False)
        self.assertIs(check(free, ("depth", 0), ("no", (((-2,), 1),))), False)

    def test_what_is_no_paper(self):
        right = {(kind, k): decide(ONE, (kind, k)) for kind in KINDS for k in (0, 1, 2)}
        for (kind, k), (answer, data) in right.items():
            other = "no" if answer == "yes" else "yes"
            for paper in ((answer,), (answer, data, data), (), [answer, data], (other, data), ("maybe", data),
                          (answer.upper(), data), ("", data), (True, data), (None, data), (data, answer), data, answer,
                          (answer.encode(), data), ((answer,), data), (answer, (data,)), (answer, [data]), None, True,
                          {answer: data}, (answer, (answer, data)), (answer, list(data)), (answer, None)):
                # Whatever is taken is a paper of another question that has the same answer.
                if repr(paper) not in [repr(row) for row in right.values()] or paper[0] == other:
                    self.assertIs(check(ONE, (kind, k), paper), False, (kind, k, paper))

    def test_any_value(self):
        for value in oracles.strange_values():
            for kind in KINDS:
                for formula in (ONE, ALL_TWO, (3, ((-1, 2), (3,)))):
                    for k in (0, 1, 2, GREAT):
                        self.assertIs(check(formula, (kind, k), value), False, repr(value))
                        for answer in ("yes", "no"):
                            paper = (answer, value)
                            if check(formula, (kind, k), paper):
                                self.assertIn(repr(value), ("()", "(((), 1),)", "(((1,), 1),)", "(((-1,), 1),)"))
                                self.assertEqual(answer, "no")
                                self.assertEqual(truth(first_yes(formula, kind), k), "no")
                        self.assertIs(check(formula, (kind, k), (value, ())), False)

    def test_deep_values(self):
        tree = ("leaf", 0)
        for at in range(190):
            tree = ("ask", at % 2 + 1, tree, ("leaf", 0))
        for data in (tree, oracles.nested(200, (), tuple), oracles.nested(200, 1, list),
                     (("axiom", oracles.nested(198, (), tuple)),), ((oracles.nested(197, (), tuple), 1),)):
            for kind in KINDS:
                for answer in ("yes", "no"):
                    for formula in (ONE, (40, ((-1,), (1,)))):
                        self.assertIs(check(formula, (kind, 3), (answer, data)), False)
                        self.assertIs(check(formula, (kind, 3), data), False)


class Decide(unittest.TestCase):
    def check_formula(self, formula, more=2):
        """Decides all numbers up to some beyond the least one, for all kinds; returns the papers."""
        papers = {}
        for kind in KINDS:
            least = first_yes(formula, kind)
            top = (formula[0] if least is None else least) + more
            for k in list(range(top + 1)) + [GREAT]:
                paper = decide(formula, (kind, k))
                self.assertEqual(paper[0], truth(least, k), (formula, kind, k))
                self.assertIs(check(formula, (kind, k), paper), True, (formula, kind, k, paper))
                papers[(kind, k)] = paper
        return papers

    def check_papers(self, formula, papers):
        """Papers of all kinds and numbers are taken only where their answer is true."""
        for kind in KINDS:
            least = first_yes(formula, kind)
            for k in sorted({number for _, number in papers}):
                for (other, number), paper in papers.items():
                    taken = check(formula, (kind, k), paper)
                    if taken:
                        self.assertEqual(paper[0], truth(least, k), (formula, kind, k, paper))
                    if other == kind and paper[0] == "yes" and k >= number:
                        self.assertIs(taken, True)

    def test_few_variables(self):
        for n in (0, 1):
            for formula in oracles.all_formulas(n):
                self.check_papers(formula, self.check_formula(formula, 3))

    def test_two_variables(self):
        for at, formula in enumerate(oracles.all_formulas(2)):
            papers = self.check_formula(formula)
            if at % 16 == 0 or at % 37 == 0:
                self.check_papers(formula, papers)

    def test_three_variables(self):
        for at, formula in enumerate(oracles.random_refutable(101, 60, 3, 12)):
            papers = self.check_formula(formula)
            if at % 10 == 0:
                self.check_papers(formula, papers)
        for formula in oracles.random_formulas(102, 40, 3, 8):
            self.check_formula(formula)

    def test_four_variables(self):
        for formula in list(oracles.random_refutable(103, 12, 4, 16)) + list(oracles.random_formulas(104, 12, 4, 10)):
            self.check_formula(formula, 1)

    def test_five_variables(self):
        for formula in list(oracles.random_refutable(105, 12, 5, 16, 4)) + list(oracles.random_formulas(106, 12, 5, 16, 5)):
            solvable = bool(oracles.models(formula))
            for kind in KINDS:
                answers = []
                for k in (0, 1, 2, 3, 4, 5, 8, 16, 32, GREAT):
                    paper = decide(formula, (kind, k))
                    self.assertIs(check(formula, (kind, k), paper), True)
                    answers.append(paper[0])
                self.assertEqual(answers, sorted(answers))
                self.assertEqual(answers[-1], "no" if solvable else "yes")
                self.assertEqual(answers[-2], answers[-1])

    def test_wide_clauses(self):
        rows = [list(row) for row in itertools.product((-1, 1), (-2, 2), (-3, 3), (-4, 4))]
        for formula, last in ((made_formula(5, rows), "yes"), (made_formula(5, rows[:-1]), "no"),
                              (made_formula(5, [[x + (1 if x > 0 else -1) for x in row] for row in rows]), "yes")):
            for kind in KINDS:
                for k in (0, 1, 2, 3, 4, 15, 16, GREAT):
                    paper = decide(formula, (kind, k))
                    self.assertIs(check(formula, (kind, k), paper), True)
                    wanted = "yes" if last == "yes" and k >= (16 if kind == "leaves" else 4) else "no"
                    self.assertEqual(paper[0], wanted, (kind, k))

    def test_many_variables(self):
        for formula in ((40, ()), (40, ((1,),)), (40, ((-40,), (40,)))):
            for kind in KINDS:
                for k in (0, 1):
                    paper = decide(formula, (kind, k))
                    self.assertIs(check(formula, (kind, k), paper), True)

    def test_broken_papers_tell_the_truth(self):
        source = random.Random(12)
        for formula in list(oracles.random_refutable(107, 20, 3, 10)) + list(oracles.random_formulas(108, 10, 3, 6)):
            for kind in KINDS:
                least = first_yes(formula, kind)
                for k in range(formula[0] + 2):
                    answer, data = decide(formula, (kind, k))
                    for _ in range(12):
                        paper = (source.choice(("yes", "no")), self.broken(source, data, formula[0]))
                        for number in (k, max(k - 1, 0), k + 1):
                            if check(formula, (kind, number), paper):
                                self.assertEqual(paper[0], truth(least, number), (formula, kind, number, paper))

    def broken(self, source, data, n):
        """The data with one place changed somewhere."""
        if type(data) is not tuple:
            return source.choice((data, source.randint(-n, n + 1))) if type(data) is int else data
        kind = source.random()
        if data == () or kind < 0.1:
            return source.choice(((), ((),), (1,), ((1,),), data + data, data[1:], data[:-1]))
        at = source.randrange(len(data))
        if kind < 0.2:
            return data[:at] + data[at + 1:]
        return data[:at] + (self.broken(source, data[at], n),) + data[at + 1:]

    def test_nothing_is_changed_and_answers_are_new(self):
        formula = (2, ((-2, -1), (-2, 1), (-1, 2), (1, 2)))
        for kind in KINDS:
            question = (kind, 1)
            first = decide(formula, question)
            self.assertEqual(first, decide(formula, question))
            self.assertEqual(formula, ALL_TWO)
            self.assertEqual(question, (kind, 1))


class Width(unittest.TestCase):
    def test_refutations_with_weakenings(self):
        formula = (3, ((-1,), (1,)))
        steps = (("axiom", 1), ("weaken", 0, (1, 2)), ("weaken", 1, (-3, 1, 2)), ("axiom", 0), ("resolve", 0, 3, 1))
        self.assertIs(check(formula, ("width", 3), ("yes", steps)), True)
        self.assertIs(check(formula, ("width", 2), ("yes", steps)), False)
        self.assertIs(check(formula, ("width", 1), ("yes", (steps[0], steps[3], ("resolve", 0, 1, 1)))), True)
        weak = (("axiom", 1), ("weaken", 0, (1, 2)), ("axiom", 0), ("resolve", 1, 2, 1), ("resolve", 0, 2, 1))
        self.assertIs(check(formula, ("width", 2), ("yes", weak)), True)
        self.assertIs(check(formula, ("width", 1), ("yes", weak)), False)
        # Axioms count, too, and what is not used.
        unused = (2, ((), (1, 2)))
        self.assertIs(check(unused, ("width", 0), ("yes", (("axiom", 0),))), True)
        self.assertIs(check(unused, ("width", 1), ("yes", (("axiom", 1), ("axiom", 0)))), False)
        self.assertIs(check(unused, ("width", 2), ("yes", (("axiom", 1), ("axiom", 0)))), True)
        self.assertIs(check(unused, ("width", 2), ("yes", (("axiom", 0), ("axiom", 1)))), False)

    def test_closed_sets_that_are_not_saturated(self):
        formula = (3, ((-2, 3), (-1, 2)))
        whole = saturated(formula, 2)
        self.assertEqual(whole, ((-2, 3), (-1, 2), (-1, 3)))
        for data in (whole, ((-2, 3), (-1,)), ((-1,), (3,)), ((-3,), (-2,), (-1,))):
            self.assertIs(check(formula, ("width", 2), ("no", data)), True)
        for data in (whole[:2], whole[1:], ((),), ((-2, 3), (-1, 2), (-1, 3), (2, 3)), ((-1,), (-2, 3)), list(whole),
                     ((-2, 3), (-1, 2), (-1, 2, 3), (-1, 3))):
            self.assertIs(check(formula, ("width", 2), ("no", data)), False, data)

    def test_the_answer_is_that_of_the_saturated_set(self):
        for formula in oracles.random_formulas(109, 100, 4, 10, 4):
            for k in range(formula[0] + 2):
                clauses = saturated(formula, k)
                self.assertEqual(decide(formula, ("width", k))[0], "yes" if () in clauses else "no")
                self.assertIs(check(formula, ("width", k), ("no", clauses)), () not in clauses)
                self.assertIs(is_closed(formula, k, clauses), () not in clauses)
