"""What the document promises over the whole program."""

import copy
import random
import unittest

import oracles
from rebut import (books, calculus, clauses, console, desk, families, graphs, known, learning, logs, memory, narrowing, numbers, papers, planes,
                   polynomials, reports, resolution, rising, sides, solving, statics, sums, tables, texts, translations, trees, widths)
from rebut.errors import BadQuestion, WrongStep

ONE = (1, ((-1,), (1,)))
MODEL = (2, ((-2, 1), (1, 2)))
FULL = (2, ((-2, -1), (-2, 1), (-1, 2), (1, 2)))

# The functions that take any value, as functions of a formula and the value.
TAKE_ANY_VALUE = {
    "is_formula": lambda formula, value: clauses.is_formula(value),
    "is_refutation": resolution.is_refutation,
    "is_solved": solving.is_solved,
    "is_tree": trees.is_tree,
    "is_table depth": lambda formula, value: tables.is_table(formula, "depth", value),
    "is_table rank": lambda formula, value: tables.is_table(formula, "rank", value),
    "is_table leaves": lambda formula, value: tables.is_table(formula, "leaves", value),
    "is_closed": lambda formula, value: widths.is_closed(formula, 2, value),
    "is_family": lambda formula, value: widths.is_family(formula, 1, value),
    "is_polynomial": lambda formula, value: polynomials.is_polynomial(formula[0], value),
    "refutes": calculus.refutes,
    "is_space": lambda formula, value: calculus.is_space(formula, 1, value),
    "is_static": statics.is_static,
    "is_balance": lambda formula, value: statics.is_balance(formula, 1, value),
    "excludes": planes.excludes,
    "is_log": logs.is_log,
    "is_query_graph": graphs.is_query_graph,
    "is_row": memory.is_row,
    "is_sum_tree": sums.is_sum_tree,
    "check depth": lambda formula, value: papers.check(formula, ("depth", 2), value),
    "check width": lambda formula, value: papers.check(formula, ("width", 2), value),
    "check degree": lambda formula, value: papers.check(formula, ("degree", 2), value),
    "check static": lambda formula, value: papers.check(formula, ("static", 2), value),
}
WORDS = ("axiom", "resolve", "weaken", "leaf", "ask", "sum", "add", "times", "load", "infer", "erase", "model", "refutation", "low", "high",
         "divide", "yes", "no", "depth")


class Odd(int):
    """A number that is no plain integer."""


class Row(tuple):
    """A tuple that is no plain tuple."""


def broken_values(source):
    """Values that no function takes: each one contains something that stands in no form of the document."""
    bad = [True, False, None, 1.0, 10 ** 40, "", "a b", b"leaf", [], {}, oracles.Raising(), object(), range(2), float("nan")]
    for value in bad:
        yield value
        for word in WORDS:
            yield (word, value)
            yield (word, value, 0)
            yield (word, 0, value)
            yield (word, 1, (word, 0), value)
            yield (word, value, (word, 0), (word, 0))
            yield ((word, 0), (word, value))
            yield ((word, value), (word, 0))
            yield ((word, 0), value)
            yield ((word, 1, 0, value),)
        yield ((value,),)
        yield (((1,), value),)
        yield ((), value)
        yield ((), (1, value))
        yield (1, (value,))
    for word in WORDS:
        for inner in (None, [], ("leaf", True), (word,)):
            value = inner
            for _ in range(198):
                value = (word, 1, value, value) if source.random() < 0.02 else (word, 1, ("leaf", 0), value)
            yield value
    for kind in (tuple, list, dict):
        for inner in (1, None, "leaf", True):
            yield oracles.nested(200, inner, kind)


class AnyValue(unittest.TestCase):
    def test_false_for_what_has_not_the_form(self):
        source = random.Random(91)
        for value in broken_values(source):
            for name, function in TAKE_ANY_VALUE.items():
                for formula in (ONE, FULL):
                    self.assertIs(function(formula, value), False, (name, formula, repr(value)[:200]))

    def test_true_or_false_for_strange_values(self):
        for value in oracles.strange_values():
            for name, function in TAKE_ANY_VALUE.items():
                for formula in (ONE, MODEL, FULL, (0, ()), (0, ((),))):
                    self.assertIn(repr(function(formula, value)), ("True", "False"), name)

    def test_subclasses_are_not_of_the_form(self):
        for value in (Row(ONE), (Odd(1), ONE[1]), (1, Row(ONE[1])), (1, ((Odd(-1),), (1,)))):
            self.assertIs(clauses.is_formula(value), False)
        for value in (Row((("axiom", 1), ("axiom", 0), ("resolve", 0, 1, 1))), (("axiom", Odd(1)), ("axiom", 0), ("resolve", 0, 1, 1))):
            self.assertIs(resolution.is_refutation(ONE, value), False)

    def test_questions(self):
        for value in oracles.strange_values() + list(broken_values(random.Random(92))):
            if repr(value) in ("('depth', 0)", repr(("depth", 10 ** 40))):
                continue
            for function in (lambda question: papers.check(ONE, question, None), lambda question: papers.decide(ONE, question),
                             lambda question: books.write_book(ONE, [question])):
                with self.assertRaises(BadQuestion):
                    function(value)

    def test_rows_of_tuples(self):
        functions = (resolution.clauses_of, calculus.polynomials_of, planes.inequalities_of, memory.memories)
        for value in broken_values(random.Random(93)):
            if isinstance(value, tuple) and all(isinstance(part, tuple) for part in value) and value:
                for function in functions:
                    with self.assertRaises(WrongStep):
                        function(FULL, value + ((),))
                    with self.assertRaises(WrongStep) as caught:
                        function(FULL, (value,) + value)
                    self.assertEqual(caught.exception.index, 0)


class Together(unittest.TestCase):
    def some_formulas(self):
        yield from ((0, ()), (0, ((),)), (1, ()), (1, ((),)), ONE, MODEL, FULL)
        yield from oracles.random_formulas(901, 60, 5, 16, 5)
        yield from oracles.random_refutable(902, 60, 5, 16, 5)
        clauses_of_five = [clause for clause in oracles.cubes(5) if len(clause) in (2, 3)]
        source = random.Random(94)
        for _ in range(40):
            yield (5, tuple(sorted(source.sample(clauses_of_five, 16))))

    def test_exactly_one_of_two_things(self):
        for formula in self.some_formulas():
            before = copy.deepcopy(formula)
            models = oracles.models(formula)
            word, data = solving.solve(formula)
            self.assertEqual(word, "model" if models else "refutation")
            self.assertIs(solving.is_solved(formula, (word, data)), True)
            self.assertEqual(learning.learn(formula)[0], "model" if models else "log")
            if models:
                self.assertIn(data, models)
            else:
                self.check_translations(formula, data)
            self.assertEqual(formula, before)

    def check_translations(self, formula, steps):
        """Goes from a refutation to all other systems, and back where there is a way."""
        self.assertIs(planes.excludes(formula, translations.cuts_of_steps(formula, steps)), True)
        self.assertIs(calculus.refutes(formula, translations.lines_of_steps(formula, steps)), True)
        tree = trees.tree_of_steps(formula, steps)
        self.assertIs(trees.is_tree(formula, tree), True)
        self.assertIs(sums.is_sum_tree(formula, sums.sums_of_tree(tree)), True)
        factors = translations.factors_of_tree(formula, tree)
        self.assertIs(statics.is_static(formula, factors), True)
        self.assertIs(calculus.refutes(formula, translations.lines_of_factors(formula, factors)), True)
        graph = graphs.graph_of_tree(tree)
        self.assertIs(graphs.is_query_graph(formula, graph), True)
        log = logs.log_of_steps(formula, steps)
        self.assertIs(logs.is_log(formula, log), True)
        row = memory.row_of_tree(formula, tree)
        self.assertIs(memory.is_row(formula, row), True)
        for other in (trees.steps_of_tree(formula, tree), narrowing.narrow_steps(formula, tree), graphs.steps_of_graph(formula, graph),
                      logs.steps_of_log(formula, logs.shortened_log(formula, log)), memory.steps_of_row(formula, row),
                      memory.steps_of_row(formula, memory.row_of_steps(formula, resolution.strict_steps(formula, steps))),
                      reports.read_report(reports.write_report(formula, steps), formula), resolution.unfolded(steps)):
            self.assertIs(resolution.is_refutation(formula, other), True)
            self.assertEqual(oracles.clauses_of_steps(formula, other)[-1], ())
        self.assertEqual(reports.statistics(formula, steps)["steps"], len(steps))

    def test_numbers_and_papers(self):
        for formula in self.some_formulas():
            questions = [(kind, k) for kind in papers.KINDS for k in (0, 1, 2, 5, 10 ** 9)]
            found, entries = books.read_book(books.write_book(formula, questions))
            self.assertEqual(found, formula)
            for question, paper in entries:
                self.assertIs(papers.check(formula, question, paper), True)
                turned = ("no" if paper[0] == "yes" else "yes", paper[1])
                self.assertIs(papers.check(formula, question, turned), False)
            if not oracles.models(formula):
                least = numbers.numbers(formula)
                for (kind, k), paper in entries:
                    self.assertEqual(paper[0], "yes" if k >= least[kind] else "no")

    def test_sides(self):
        source = random.Random(95)
        for formula in self.some_formulas():
            word, steps = solving.solve(formula)
            if word == "refutation":
                division = tuple(at for at in range(len(formula[1])) if source.random() < 0.5)
                cube = tuple(sorted(source.choice((v, -v)) for v in sides.common_variables(formula, division)))
                side, left = sides.half(formula, division, steps, cube)
                rest = clauses.restricted(sides.side_formula(formula, division, side), cube)
                self.assertIs(resolution.is_refutation(rest, left), True)
                names, other, indexes = rising.falling_division(formula, division)
                turned = translations.renamed_steps(formula, names, steps)
                self.assertIs(resolution.is_refutation(other, turned), True)
                if rising.is_rising(other, indexes):
                    side, left = rising.rising_half(other, indexes, turned, cube)
                    rest = clauses.restricted(sides.side_formula(other, indexes, side), cube)
                    self.assertIs(resolution.is_refutation(rest, left), True)

    def test_console_and_desk(self):
        for formula in list(self.some_formulas())[:80]:
            lines = [f"variables {formula[0]}"] + [" ".join(["add", *map(str, clause)]) for clause in formula[1]] + ["show", "solve", "core"]
            found = console.run_console("\n".join(lines + [f"number {kind}" for kind in papers.KINDS]))
            table = desk.Desk(formula[0])
            for clause in formula[1]:
                table.add(list(clause))
            wanted = "added\n" * len(formula[1]) + texts.write_formula(formula)
            if table.model() is not None:
                wanted += "model\n" + "none\n" * 7
            else:
                wanted += f"no model\ncore {len(table.core())}\n" + "".join(f"{k}\n" for k in numbers.numbers(formula).values())
            self.assertEqual(found, wanted)

    def test_families(self):
        for formula, steps in ((families.chain_formula(9), known.chain_steps(9)), (families.order_formula(4), known.order_steps(4)),
                               (families.pebble_formula([[], [1], [1, 2]]), known.pebble_steps([[], [1], [1, 2]]))):
            self.check_translations(formula, steps)


class ListsStayTheirs(unittest.TestCase):
    def test_lists_that_are_passed_are_not_changed(self):
        rows = [[2, -1, 2], [1], [1, -1], []]
        edges, odd = [(0, 1), (1, 2), (0, 1)], [2, 0, 1, 2]
        pebbles = [[], [1, 1], [2, 1, 2]]
        equations = [((1, 2), 1), ((), 0), ((2,), 1), ((1, 2), 1)]
        questions = [("depth", 1), ("width", 0), ("depth", 1)]
        calls = ((clauses.made_formula, 2, rows), (clauses.made_clause, rows[0]), (families.parity_formula, 3, edges, odd),
                 (families.pebble_formula, pebbles), (known.pebble_steps, pebbles), (known.parity_lines, 3, edges, odd),
                 (sums.parity_sums, 3, edges, odd), (sums.implied, equations, ((1,), 0)), (sums.solvable, equations),
                 (books.write_book, ONE, questions), (desk.Desk(2).add, rows[0]))
        for function, *arguments in calls:
            before = copy.deepcopy(arguments)
            first = copy.deepcopy(function(*arguments))
            self.assertEqual(arguments, before, function)
            if function != calls[-1][0]:
                self.assertEqual(function(*arguments), first)

    def test_returned_lists_are_new(self):
        steps = (("axiom", 1), ("axiom", 0), ("resolve", 0, 1, 1))
        row = memory.row_of_steps(ONE, steps)
        table = desk.Desk(1)
        table.add([1])
        table.add([-1])
        learner = learning.Learner(FULL)
        learner.assume(1)
        for call in (lambda: clauses.variables_of(ONE), lambda: resolution.clauses_of(ONE, steps), lambda: sides.common_variables(ONE, (0,)),
                     lambda: memory.memories(ONE, row), lambda: memory.memories(ONE, row)[0], table.core, learner.learned, learner.assumptions,
                     lambda: books.read_book("formula 0\n? 1\n! 2\n")[1], lambda: books.book_faults("formula 0\n? 1\n! 2\n"),
                     lambda: reports.report_faults("x\n", ONE), lambda: reports.statistics(ONE, steps)["variables"],
                     lambda: planes.inequalities_of(ONE, (("axiom", 0),)), lambda: calculus.polynomials_of(ONE, (("axiom", 0),))):
            found = call()
            self.assertIs(type(found), list)
            wanted = copy.deepcopy(found)
            found.append("more")
            self.assertEqual(call(), wanted)
