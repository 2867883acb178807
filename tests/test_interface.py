import importlib
import inspect
import unittest

from rebut import errors, papers

INTERFACE = {
    "clauses": ["is_formula(value)", "made_formula(n, rows)", "restricted(formula, cube)", "renamed(formula, names)",
                "joined(first, second)", "made_clause(literals)", "falsifies(cube, clause)", "satisfies(cube, clause)",
                "is_model(formula, cube)", "falsified(formula, cube)", "width_of_formula(formula)",
                "variables_of(formula)", "forced(formula, cube)"],
    "texts": ["write_formula(formula)", "write_value(value)", "read_formula(text)", "read_value(text)"],
    "families": ["chain_formula(n)", "pigeon_formula(p, h)", "parity_formula(vertices, edges, odd)",
                 "order_formula(n)", "pebble_formula(rows)"],
    "resolution": ["clauses_of(formula, steps)", "is_refutation(formula, value)", "step_width(formula, steps)",
                   "step_depth(steps)", "is_treelike(steps)", "is_regular(steps)", "pruned(steps)",
                   "strict_steps(formula, steps)", "restricted_steps(formula, steps, cube)", "unfolded(steps)"],
    "solving": ["solve(formula)", "is_solved(formula, value)"],
    "trees": ["is_tree(formula, value)", "tree_depth(tree)", "tree_leaves(tree)", "tree_rank(tree)",
              "find_leaf(tree, cube)", "steps_of_tree(formula, tree)", "tree_of_steps(formula, steps)"],
    "tables": ["is_table(formula, kind, value)", "number_in(kind, table, cube)"],
    "widths": ["is_closed(formula, k, value)", "is_family(formula, k, value)", "family_of(formula, k, closed)",
               "closed_of(formula, k, family)", "saturated(formula, k)"],
    "papers": ["check(formula, question, paper)", "decide(formula, question)"],
    "polynomials": ["is_polynomial(n, value)", "plus(p, q)", "times(p, q)", "clause_polynomial(clause)", "degree(p)",
                    "value_at(p, cube)", "leading(p)", "reduced(p, space)"],
    "calculus": ["polynomials_of(formula, lines)", "refutes(formula, value)", "is_space(formula, k, value)"],
    "statics": ["is_static(formula, value)", "is_balance(formula, k, value)", "static_degree(formula, factors)"],
    "planes": ["holds(inequality, cube)", "excludes(formula, value)", "inequalities_of(formula, cuts)",
               "pigeon_cuts(p, h)"],
    "translations": ["cuts_of_steps(formula, steps)", "lines_of_steps(formula, steps)",
                     "lines_of_factors(formula, factors)", "factors_of_tree(formula, tree)",
                     "shallow_tables(formula, k, family)", "renamed_steps(formula, names, steps)",
                     "renamed_tree(formula, names, tree)"],
    "narrowing": ["narrow_steps(formula, tree)"],
    "sides": ["side_formula(formula, division, side)", "common_variables(formula, division)",
              "interpolant(formula, division, steps)", "circuit_value(circuit, cube)",
              "half(formula, division, steps, cube)"],
    "numbers": ["number_of(formula, kind)", "numbers(formula)"],
    "books": ["write_book(formula, questions)", "read_book(text)", "book_faults(text)"],
    "logs": ["follows_at_once(formula, clause)", "is_log(formula, value)", "log_of_steps(formula, steps)",
             "shortened_log(formula, log)", "steps_of_log(formula, log)"],
    "learning": ["learn(formula)"],
    "graphs": ["is_query_graph(formula, value)", "tree_of_graph(graph)", "graph_of_tree(tree)", "graph_of_steps(steps)",
               "graph_leaf(graph, cube)", "steps_of_graph(formula, graph)"],
    "memory": ["is_row(formula, value)", "row_space(formula, row)", "memories(formula, row)",
               "row_of_tree(formula, tree)", "row_of_steps(formula, steps)", "steps_of_row(formula, row)"],
    "sums": ["is_sum_tree(formula, value)", "implied(equations, equation)", "solvable(equations)", "sum_depth(tree)",
             "find_sum_leaf(tree, cube)", "sums_of_tree(tree)", "parity_sums(vertices, edges, odd)"],
    "known": ["chain_tree(n)", "chain_steps(n)", "pebble_steps(rows)", "order_steps(n)",
              "parity_lines(vertices, edges, odd)"],
    "rising": ["is_rising(formula, division)", "rising_interpolant(formula, division, steps)",
               "rising_value(circuit, cube)", "rising_half(formula, division, steps, cube)",
               "falling_division(formula, division)"],
    "reports": ["write_report(formula, steps)", "read_report(text, formula)", "statistics(formula, steps)",
                "report_faults(text, formula)"],
    "console": ["run_console(text)"],
}
CLASSES = {
    ("desk", "Desk"): ["__init__(self, n)", "add(self, literals)", "remove(self, index)", "formula(self)", "model(self)",
                       "core(self)", "steps(self)"],
    ("learning", "Learner"): ["__init__(self, formula)", "assume(self, literal)", "assumptions(self)", "learned(self)",
                              "knows(self)", "finished(self)"],
}


class Interface(unittest.TestCase):
    def test_functions(self):
        for module, rows in INTERFACE.items():
            found = importlib.import_module("rebut." + module)
            for row in rows:
                function = getattr(found, row.split("(")[0])
                self.assertTrue(inspect.isfunction(function), row)
                self.assertEqual(function.__module__, "rebut." + module, row)
                self.assertEqual(function.__name__ + str(inspect.signature(function)), row)

    def test_classes(self):
        for (module, name), rows in CLASSES.items():
            found = getattr(importlib.import_module("rebut." + module), name)
            self.assertTrue(inspect.isclass(found), name)
            self.assertEqual(found.__module__, "rebut." + module, name)
            for row in rows:
                method = vars(found)[row.split("(")[0]]
                self.assertEqual(method.__name__ + str(inspect.signature(method)), row)

    def test_errors(self):
        self.assertTrue(issubclass(errors.RebutError, ValueError))
        for name in ("BadFormula", "BadText", "WrongStep", "BadQuestion", "HasModel", "NotRising", "BadLine"):
            found = getattr(errors, name)
            self.assertEqual((found.__bases__, found.__module__), ((errors.RebutError,), "rebut.errors"))
        self.assertEqual((errors.WrongStep(3).index, errors.BadLine(4).line), (3, 4))

    def test_kinds(self):
        self.assertEqual(papers.KINDS, ("depth", "rank", "leaves", "width", "degree", "static"))
