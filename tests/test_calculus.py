import itertools
import random
import unittest

import oracles
from rebut.calculus import is_space, polynomials_of, refutes
from rebut.errors import WrongStep
from rebut.papers import check, decide
from rebut.polynomials import clause_polynomial, degree, leading, reduced, times

ONE = (1, ((-1,), (1,)))
ALL_TWO = (2, ((-2, -1), (-2, 1), (-1, 2), (1, 2)))
WRONG = [(), ("axiom",), ("axiom", 0, 0), ("axiom", 2), ("axiom", -1), ("axiom", True), ("axiom", False), ("axiom", "0"),
         ("axiom", 0.0), ("axiom", (0,)), ("axiom", None), ("Axiom", 0), ("axiom ", 0), ("low", 1), ("high", 1),
         ("resolve", 0, 1, 1), ("weaken", 0, ()), ("divide", 0, 1), ("",), ("", 0), (0, 0), (None, 0), (b"axiom", 0),
         ("add",), ("add", 0), ("add", 0, 1, 1), ("add", 0, 2), ("add", 2, 0), ("add", -1, 0), ("add", 0, -1),
         ("add", True, 0), ("add", 0, False), ("add", "0", 0), ("add", 0, None), ("add", (0,), 0), ("add", 0, 1.0),
         ("times",), ("times", 0), ("times", 0, 1, 1), ("times", 2, 1), ("times", -1, 1), ("times", True, 1),
         ("times", False, 1), ("times", None, 1), ("times", 0, 0), ("times", 0, -1), ("times", 0, 3), ("times", 0, 41),
         ("times", 0, True), ("times", 0, "1"), ("times", 0, (1,)), ("times", 0, None), ("times", 0, 1.0),
         ("axiom", 10 ** 30), ("times", 0, 10 ** 30), ("add", 10 ** 30, 0)]


def random_lines(source, formula, length):
    lines = [("axiom", source.randrange(len(formula[1])))]
    while len(lines) < length:
        a, b = source.randrange(len(lines)), source.randrange(len(lines))
        lines.append(source.choice((("axiom", source.randrange(len(formula[1]))), ("add", a, b),
                                    ("times", a, source.randint(1, formula[0])))))
    return tuple(lines)


def plain_space(formula, k, value):
    """Whether a tuple of polynomials is a space for k, by the words of the document."""
    n, clauses = formula
    if any(p in ((), ((),)) or degree(p) > k for p in value) or list(value) != sorted(set(value)):
        return False
    if len({leading(p) for p in value}) < len(value):
        return False
    sums = {frozenset()}
    for p in value:
        sums |= {other ^ oracles.as_set(p) for other in sums}
    wanted = [oracles.set_of_clause(clause) for clause in clauses if len(clause) <= k]
    for p in value:
        if degree(p) < k:
            wanted += [oracles.set_times(oracles.as_set(p), [frozenset([v])]) for v in range(1, n + 1)]
    return all(p in sums for p in wanted)


class PolynomialsOf(unittest.TestCase):
    def test_examples(self):
        self.assertEqual(polynomials_of(ONE, ()), [])
        self.assertEqual(polynomials_of(ONE, (("axiom", 0), ("axiom", 1), ("add", 0, 1))),
                         [((1,),), ((), (1,)), ((),)])
        self.assertEqual(polynomials_of(ONE, (("axiom", 0), ("add", 0, 0), ("times", 1, 1), ("times", 0, 1))),
                         [((1,),), (), (), ((1,),)])
        self.assertEqual(polynomials_of((2, ((-2, 1),)), (("axiom", 0), ("times", 0, 1), ("times", 0, 2))),
                         [((1, 2), (2,)), (), ((1, 2), (2,))])
        self.assertEqual(polynomials_of((0, ((),)), (("axiom", 0),)), [((),)])

    def test_the_greatest_degree(self):
        formula = (2, ((-2, -1),))
        lines = (("axiom", 0), ("times", 0, 1), ("times", 1, 2))
        self.assertEqual(polynomials_of(formula, lines), [((1, 2),)] * 3)
        formula = (2, ((-2, -1), (1, 2)))
        self.assertEqual(polynomials_of(formula, (("axiom", 1), ("times", 0, 2))), [((), (1,), (1, 2), (2,)), ()])

    def test_wrong_lines(self):
        right = (("axiom", 0), ("axiom", 1))
        for bad in WRONG:
            for at in range(3):
                lines = right[:at] + (bad,) + right[at:] + (bad,)
                with self.assertRaises(WrongStep) as caught:
                    polynomials_of(ONE, lines)
                self.assertEqual(caught.exception.index, at, bad)
                self.assertIs(refutes(ONE, lines), False)
            with self.assertRaises(WrongStep) as caught:
                polynomials_of(ONE, (("axiom", 0), ("axiom", 1), ("add", 0, 1), bad[:3] + ((),)))
            self.assertEqual(caught.exception.index, 3)

    def test_places_that_are_not_earlier(self):
        for lines, index in (((("add", 0, 0),), 0), ((("axiom", 0), ("add", 1, 0)), 1), ((("times", 0, 1),), 0),
                             ((("axiom", 0), ("add", 0, 0), ("times", 2, 1)), 2), ((("axiom", 0), ("add", 0, 1)), 1)):
            with self.assertRaises(WrongStep) as caught:
                polynomials_of(ONE, lines)
            self.assertEqual(caught.exception.index, index)

    def test_no_axioms(self):
        for formula in ((0, ()), (3, ())):
            with self.assertRaises(WrongStep) as caught:
                polynomials_of(formula, (("axiom", 0),))
            self.assertEqual(caught.exception.index, 0)
            self.assertEqual(polynomials_of(formula, ()), [])

    def test_strange_items(self):
        right = [repr(line) for line in (("axiom", 0), ("axiom", 1), ("add", 0, 0), ("times", 0, 1))]
        for value in oracles.strange_values():
            for line in (value, (value,), ("axiom", value), ("add", 0, value), ("add", value, 0), ("times", value, 1),
                         ("times", 0, value), (value, 0), (value, 0, 1)):
                lines = (("axiom", 0), line, value)
                with self.assertRaises(WrongStep) as caught:
                    polynomials_of(ONE, lines)
                self.assertEqual(caught.exception.index, 2 if repr(line) in right else 1, repr(line))

    def test_random(self):
        source = random.Random(3)
        for formula in oracles.random_formulas(71, 80, 4, 6):
            if formula[1]:
                lines = random_lines(source, formula, 12)
                known = polynomials_of(formula, lines)
                self.assertEqual(known, oracles.plain_polynomials(formula, lines))
                self.assertIs(type(known), list)
                known.append(None)
                self.assertEqual(len(polynomials_of(formula, lines)), 12)
                self.assertIs(refutes(formula, lines), known[-2] == ((),))
                cut = lines[:source.randrange(12)]
                for bad in (("axiom", len(formula[1])), ("add", len(cut), 0), ("times", 0, formula[0] + 1)):
                    with self.assertRaises(WrongStep) as caught:
                        polynomials_of(formula, cut + (bad,) + lines)
                    self.assertEqual(caught.exception.index, len(cut))


class Refutes(unittest.TestCase):
    def test_examples(self):
        self.assertIs(refutes(ONE, (("axiom", 0), ("axiom", 1), ("add", 0, 1))), True)
        self.assertIs(refutes(ONE, (("axiom", 0), ("axiom", 1))), False)
        self.assertIs(refutes(ONE, (("axiom", 0), ("axiom", 1), ("add", 0, 1), ("axiom", 0))), False)
        self.assertIs(refutes((0, ((),)), (("axiom", 0),)), True)
        self.assertIs(refutes((0, ((),)), ()), False)
        self.assertIs(refutes(ONE, [("axiom", 0), ("axiom", 1), ("add", 0, 1)]), False)
        self.assertIs(refutes(ONE, (("axiom", 0), ("axiom", 1), ["add", 0, 1])), False)
        self.assertIs(refutes((1, ((1,),)), (("axiom", 0), ("times", 0, 1))), False)

    def test_any_value(self):
        for value in oracles.strange_values():
            for formula in (ONE, (0, ()), (2, ((-1,), (2,)))):
                self.assertIs(refutes(formula, value), False, repr(value))
                self.assertIs(refutes(formula, (value,)), False)
                self.assertIs(refutes(formula, (("axiom", 0), value)), False)
        self.assertIs(refutes((0, ((),)), (("axiom", 0), ("axiom", False))), False)

    def test_models_are_not_refuted(self):
        source = random.Random(4)
        for formula in oracles.random_formulas(72, 100, 3, 6):
            if formula[1] and oracles.models(formula):
                for _ in range(10):
                    self.assertIs(refutes(formula, random_lines(source, formula, 8)), False)


class Within(unittest.TestCase):
    def test_degree_of_a_line(self):
        lines = decide(ALL_TWO, ("degree", 2))[1]
        self.assertIs(check(ALL_TWO, ("degree", 2), ("yes", lines)), True)
        self.assertIs(check(ALL_TWO, ("degree", 3), ("yes", lines)), True)
        self.assertIs(check(ALL_TWO, ("degree", 1), ("yes", lines)), False)
        self.assertIs(check(ALL_TWO, ("degree", 0), ("yes", lines)), False)
        unused = (2, ((), (1, 2)))
        self.assertIs(check(unused, ("degree", 0), ("yes", (("axiom", 0),))), True)
        self.assertIs(check(unused, ("degree", 1), ("yes", (("axiom", 1), ("axiom", 0)))), False)
        self.assertIs(check(unused, ("degree", 2), ("yes", (("axiom", 1), ("axiom", 0)))), True)

    def test_products_of_a_full_degree(self):
        last = (("axiom", 0), ("axiom", 1), ("add", 0, 1))
        self.assertIs(check(ONE, ("degree", 1), ("yes", last)), True)
        # The product has the degree 1, too, but 1 is multiplied already.
        for line in (("times", 0, 1), ("times", 1, 1)):
            lines = (("axiom", 0), ("axiom", 1), line, ("add", 0, 1))
            self.assertIs(refutes(ONE, lines), True)
            self.assertIs(check(ONE, ("degree", 1), ("yes", lines)), False)
            self.assertIs(check(ONE, ("degree", 2), ("yes", lines)), True)
        lines = (("axiom", 0), ("axiom", 1), ("add", 0, 1), ("times", 2, 1), ("times", 2, 1), ("add", 3, 4),
                 ("times", 5, 1), ("add", 6, 2))
        self.assertIs(check(ONE, ("degree", 1), ("yes", lines)), True)
        lines = (("axiom", 0), ("times", 0, 1))
        self.assertIs(check((1, ((), )), ("degree", 0), ("yes", lines)), False)
        zero = (("axiom", 0), ("add", 0, 0), ("times", 1, 1), ("add", 2, 0))
        self.assertIs(check((1, ((),)), ("degree", 0), ("yes", zero)), True)

    def test_wide_axioms_are_not_worked_out(self):
        formula = (40, (tuple(range(1, 41)),))
        self.assertIs(check(formula, ("degree", 3), ("yes", (("axiom", 0),))), False)


class IsSpace(unittest.TestCase):
    def test_examples(self):
        self.assertIs(is_space((0, ()), 0, ()), True)
        self.assertIs(is_space((0, ()), 9, ()), True)
        self.assertIs(is_space((0, ((),)), 0, ()), False)
        self.assertIs(is_space(ONE, 0, ()), True)
        self.assertIs(is_space(ONE, 1, ()), False)
        self.assertIs(is_space((1, ((1,),)), 1, (((), (1,)),)), True)
        self.assertIs(is_space((1, ((1,),)), 2, (((), (1,)),)), True)
        self.assertIs(is_space((1, ((-1,),)), 5, (((1,),),)), True)
        self.assertIs(is_space(ALL_TWO, 1, ()), True)
        self.assertIs(is_space((2, ((1,),)), 10 ** 20, decide((2, ((1,),)), ("degree", 10 ** 20))[1]), True)

    def test_conditions(self):
        free = (2, ())
        self.assertIs(is_space(free, 1, (((), (1,)), ((1,), (2,)))), True)
        # 0 or 1 in it.
        self.assertIs(is_space(free, 1, ((),)), False)
        self.assertIs(is_space(free, 1, (((),),)), False)
        self.assertIs(is_space(free, 0, (((),),)), False)
        self.assertIs(is_space(free, 1, ((), ((), (1,)))), False)
        self.assertIs(is_space(free, 1, (((),), ((), (1,)))), False)
        # A degree beyond k, the same leading monomial, an order that does not ascend.
        self.assertIs(is_space(free, 0, (((), (1,)),)), False)
        self.assertIs(is_space(free, 2, (((1, 2),),)), True)
        self.assertIs(is_space(free, 1, (((1, 2),),)), False)
        self.assertIs(is_space(free, 1, (((), (1,)), ((1,),))), False)
        self.assertIs(is_space(free, 1, (((), (2,)), ((1,), (2,)))), False)
        self.assertIs(is_space(free, 1, (((1,), (2,)), ((), (1,)))), False)
        self.assertIs(is_space(free, 1, (((1,),), ((1,),))), False)
        # A clause that does not reduce to 0, or is too wide to count.
        self.assertIs(is_space((2, ((1,),)), 1, (((1,),),)), False)
        self.assertIs(is_space((2, ((1, 2),)), 1, ()), True)
        self.assertIs(is_space((2, ((1, 2),)), 2, ()), False)
        self.assertIs(is_space((2, ((1, 2),)), 2, (((), (1,), (1, 2), (2,)),)), True)
        # A product that does not reduce to 0.
        self.assertIs(is_space(free, 2, (((1,),),)), False)
        self.assertIs(is_space(free, 2, (((1,),), ((1, 2),))), True)
        self.assertIs(is_space(free, 2, (((), (1,)), ((1, 2), (2,)))), True)
        self.assertIs(is_space(free, 2, (((), (1,)), ((1, 2),))), False)

    def test_wrong_forms(self):
        for value in ([], [((1,),)], ([(1,)],), (((1, 1),),), (((2, 1),),), (((1,), ()),), (((3,),),), (((0,),),),
                      (((-1,),),), (((True,),),), ((1,),), (1,), "", None, 0, True, {}, set(), (((1,),), None),
                      ((((1,),),),), (((1.0,),),), (("1",),)):
            self.assertIs(is_space((2, ()), 1, value), False, value)

    def test_any_value(self):
        for value in oracles.strange_values():
            for k in (0, 1, 3):
                self.assertIs(is_space((1, ()), k, value), repr(value) == "()", repr(value))
                self.assertIs(is_space((1, ()), k, (value,)), k > 0 and repr(value) == "((1,),)", repr(value))

    def test_against_the_words(self):
        source = random.Random(5)
        for formula in oracles.random_formulas(73, 60, 3, 5, 3):
            n = formula[0]
            for k in range(n + 2):
                answer, data = decide(formula, ("degree", k))
                tries = [data] if answer == "no" else []
                for _ in range(8):
                    rows = {}
                    for _ in range(source.randint(0, 4)):
                        p = tuple(m for m in oracles.monomials(n, k) if source.random() < 0.4)
                        rows.setdefault(leading(p) if p else (), p)
                    tries.append(tuple(sorted(rows.values())))
                    if answer == "no" and data:
                        kept = [p for p in data if source.random() < 0.8]
                        tries.append(tuple(kept))
                        p = source.choice(data)
                        other = oracles.as_tuple(oracles.as_set(p) ^ oracles.as_set(source.choice(data)))
                        tries.append(tuple(sorted(set(data) - {p} | {other})))
                        tries.append(tuple(sorted(set(data) - {p} | {reduced(p, tuple(kept))})))
                for value in tries:
                    self.assertIs(is_space(formula, k, value), plain_space(formula, k, value), (formula, k, value))

    def test_all_spaces_of_one_variable(self):
        every = [row for size in range(3) for row in itertools.combinations(oracles.monomials(1), size)]
        for formula in oracles.all_formulas(1):
            for k in range(4):
                found = False
                for size in range(4):
                    for value in itertools.permutations(every, size):
                        right = is_space(formula, k, value)
                        self.assertIs(right, plain_space(formula, k, value))
                        found = found or right
                self.assertIs(found, not oracles.reaches_one(formula, k))

    def test_what_is_reached_is_in_the_sums(self):
        for formula in oracles.random_formulas(74, 60, 4, 8):
            for k in range(formula[0] + 1):
                answer, data = decide(formula, ("degree", k))
                if answer == "no":
                    for clause in formula[1]:
                        if len(clause) <= k:
                            self.assertEqual(reduced(clause_polynomial(clause), data), ())
                    for p in data:
                        if degree(p) < k:
                            self.assertEqual(reduced(times(p, ((1,),)), data), ())
                    self.assertNotEqual(reduced(((),), data), ())
