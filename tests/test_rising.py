import copy
import itertools
import random
import unittest

import oracles
from rebut.clauses import renamed, restricted
from rebut.errors import NotRising
from rebut.families import chain_formula, order_formula, pebble_formula, pigeon_formula
from rebut.resolution import is_refutation, step_width
from rebut.rising import falling_division, is_rising, rising_half, rising_interpolant, rising_value
from rebut.sides import circuit_value, common_variables, interpolant, side_formula
from rebut.solving import solve
from rebut.translations import renamed_steps

ONE = (1, ((-1,), (1,)))
STEPS = (("axiom", 1), ("axiom", 0), ("resolve", 0, 1, 1))


def divisions(formula):
    for bits in itertools.product((False, True), repeat=len(formula[1])):
        yield tuple(at for at, bit in enumerate(bits) if bit)


def plain_rising(formula, division):
    first = [formula[1][at] for at in division]
    second = [clause for at, clause in enumerate(formula[1]) if at not in division]
    common = {abs(x) for clause in first for x in clause} & {abs(x) for clause in second for x in clause}
    return not any(x < 0 and -x in common for clause in first for x in clause)


def cubes_of(variables):
    for signs in itertools.product((-1, 1), repeat=len(variables)):
        yield tuple(sorted(sign * v for sign, v in zip(signs, variables)))


def rising_refutations(seed, count, source):
    """Triples of a formula, a rising division with common variables, and a refutation."""
    found = 0
    for formula, steps in itertools.chain(oracles.random_refutations(seed, 500), mixed_sides(source)):
        rows = [row for row in divisions(formula) if plain_rising(formula, row) and common_variables(formula, row)]
        for division in source.sample(rows, min(2, len(rows))):
            found += 1
            yield formula, division, steps
        if found >= count:
            return


def mixed_sides(source):
    """Formulas whose first side has positive common variables only, with refutations."""
    while True:
        n = source.randint(3, 5)
        border = source.sample(range(1, n + 1), source.randint(1, 2))
        rows = set()
        for _ in range(source.randint(8, 16)):
            literals = [source.choice((v, -v)) for v in source.sample(range(1, n + 1), source.randint(1, 3))]
            if source.random() < 0.5:
                literals = [abs(x) if abs(x) in border else x for x in literals]
            rows.add(tuple(sorted(literals)))
        formula = (n, tuple(sorted(rows)))
        if not oracles.models(formula):
            steps = oracles.random_refutation(source, formula)
            if steps is not None and len(formula[1]) <= 12:
                yield formula, steps


class IsRising(unittest.TestCase):
    def test_examples(self):
        self.assertIs(is_rising(ONE, (1,)), True)
        self.assertIs(is_rising(ONE, (0,)), False)
        self.assertIs(is_rising(ONE, ()), True)
        self.assertIs(is_rising(ONE, (0, 1)), True)
        self.assertIs(is_rising((0, ()), ()), True)
        # A variable that is negated in the first side, and not common.
        formula = (3, ((-2, 1), (-1, 3), (2,)))
        self.assertIs(is_rising(formula, (0, 2)), True)
        self.assertIs(is_rising(formula, (0,)), False)
        self.assertIs(is_rising(formula, (1,)), False)
        # A common variable that is positive in one clause of the first side and negated in another one.
        self.assertIs(is_rising((2, ((-1, 2), (1,), (1, 2))), (0, 2)), False)
        self.assertIs(is_rising((2, ((-1,), (1,), (1, 2))), (1, 2)), True)

    def test_against_the_words(self):
        both = {True: 0, False: 0}
        for formula in oracles.random_formulas(411, 60, 4, 7):
            for division in divisions(formula):
                before = copy.deepcopy(formula)
                wanted = plain_rising(formula, division)
                both[wanted] += 1
                self.assertIs(is_rising(formula, division), wanted)
                self.assertEqual(formula, before)
        self.assertGreater(min(both.values()), 100)


class RisingValue(unittest.TestCase):
    def test_gates(self):
        self.assertIs(rising_value((("false",),), ()), False)
        self.assertIs(rising_value((("true",),), ()), True)
        pair = (("false",), ("true",))
        for a, b in itertools.product((0, 1), repeat=2):
            self.assertIs(rising_value(pair + (("same", a),), ()), bool(a))
            self.assertIs(rising_value(pair + (("or", a, b),), (1,)), bool(a or b))
            self.assertIs(rising_value(pair + (("and", a, b),), (1,)), bool(a and b))
            self.assertIs(rising_value(pair + (("need", 2, a, b),), (-2, 1)), bool(b and a))
            self.assertIs(rising_value(pair + (("need", 2, a, b),), (1, 2)), bool(b))
        circuit = pair + (("need", 3, 0, 1), ("need", 1, 2, 1), ("same", 3))
        self.assertEqual([rising_value(circuit, cube) for cube in ((-3, -1), (-1, 3), (-3, 1), (1, 3))], [False, True, True, True])

    def random_circuit(self, source, n):
        circuit = []
        for at in range(source.randint(1, 12)):
            word = source.choice(("false", "true", "same", "or", "and", "need", "need")) if at else source.choice(("false", "true"))
            a, b = (source.randrange(at), source.randrange(at)) if at else (0, 0)
            circuit.append({"false": ("false",), "true": ("true",), "same": ("same", a), "or": ("or", a, b), "and": ("and", a, b),
                            "need": ("need", source.randint(1, n), a, b)}[word])
        return tuple(circuit)

    def plain_value(self, circuit, cube, at):
        gate = circuit[at]
        if gate[0] in ("false", "true"):
            return gate[0] == "true"
        known = [self.plain_value(circuit, cube, b) for b in gate[-2:]] if gate[0] != "same" else []
        if gate[0] == "same":
            return self.plain_value(circuit, cube, gate[1])
        if gate[0] == "need":
            return known[1] and (gate[1] in cube or known[0])
        return any(known) if gate[0] == "or" else all(known)

    def test_it_never_falls(self):
        source = random.Random(61)
        for _ in range(300):
            circuit = self.random_circuit(source, 4)
            values = {}
            for cube in oracles.assignments(4):
                values[cube] = rising_value(circuit, cube)
                self.assertIs(values[cube], self.plain_value(circuit, cube, len(circuit) - 1))
            for cube in values:
                for other in values:
                    if {x for x in cube if x > 0} <= {x for x in other if x > 0}:
                        self.assertLessEqual(values[cube], values[other])


class RisingInterpolant(unittest.TestCase):
    def test_examples(self):
        self.assertEqual(rising_interpolant(ONE, (1,), STEPS), (("false",), ("true",), ("need", 1, 0, 1)))
        self.assertEqual(rising_interpolant(ONE, (), STEPS), (("true",), ("true",), ("and", 0, 1)))
        self.assertEqual(rising_interpolant(ONE, (0, 1), STEPS), (("false",), ("false",), ("or", 0, 1)))

    def test_not_rising(self):
        formula, steps = ONE, STEPS
        for function, arguments in ((rising_interpolant, ()), (rising_half, ((1,),)), (rising_half, ((-1,),))):
            with self.assertRaises(NotRising):
                function(formula, (0,), steps, *arguments)
        source = random.Random(62)
        count = 0
        for formula, steps in oracles.random_refutations(412, 40):
            for division in divisions(formula):
                if not plain_rising(formula, division) and source.random() < 0.05:
                    count += 1
                    with self.assertRaises(NotRising):
                        rising_interpolant(formula, division, steps)
                    for cube in cubes_of(common_variables(formula, division)):
                        with self.assertRaises(NotRising):
                            rising_half(formula, division, steps, cube)
        self.assertGreater(count, 50)

    def test_gates_of_the_interpolant(self):
        source = random.Random(63)
        needs = 0
        for formula, division, steps in rising_refutations(413, 150, source):
            wanted = tuple(("need",) + gate[1:] if gate[0] == "choose" else gate for gate in interpolant(formula, division, steps))
            found = rising_interpolant(formula, division, steps)
            self.assertIs(type(found), tuple)
            self.assertEqual(found, wanted)
            needs += any(gate[0] == "need" for gate in found)
            rest = set(common_variables(formula, division))
            values = {cube: rising_value(found, cube) for cube in cubes_of(sorted(rest))}
            for cube, value in values.items():
                # Where both interpolants differ, neither side has a model.
                side = side_formula(formula, division, 2 if value else 1)
                self.assertEqual(oracles.models(restricted(side, cube)), [])
                if circuit_value(interpolant(formula, division, steps), cube) != value:
                    self.assertEqual(oracles.models(restricted(side_formula(formula, division, 1 if value else 2), cube)), [])
                for other in values:
                    if {x for x in cube if x > 0} <= {x for x in other if x > 0}:
                        self.assertLessEqual(value, values[other])
        self.assertGreater(needs, 50)


class RisingHalf(unittest.TestCase):
    def check_half(self, formula, division, steps):
        """Checks all cubes and tells how often b was followed although its clause is true."""
        before = copy.deepcopy((formula, division, steps))
        circuit = rising_interpolant(formula, division, steps)
        other = interpolant(formula, division, steps)
        different = 0
        for cube in cubes_of(common_variables(formula, division)):
            value = rising_value(circuit, cube)
            different += value != circuit_value(other, cube)
            found = rising_half(formula, division, steps, cube)
            self.assertIs(type(found), tuple)
            side, left = found
            self.assertEqual(side, 2 if value else 1)
            rest = restricted(side_formula(formula, division, side), cube)
            self.assertIs(is_refutation(rest, left), True, (formula, division, steps, cube))
            self.assertEqual(oracles.clauses_of_steps(rest, left)[-1], ())
            self.assertLessEqual(len(left), len(steps))
            self.assertLessEqual(step_width(rest, left), step_width(formula, steps))
        self.assertEqual(before, (formula, division, steps))
        return different

    def test_examples(self):
        self.assertEqual(rising_half(ONE, (1,), STEPS, (1,)), (2, (("axiom", 0),)))
        self.assertEqual(rising_half(ONE, (1,), STEPS, (-1,)), (1, (("axiom", 0),)))
        self.assertEqual(rising_half((0, ((),)), (), (("axiom", 0),), ()), (2, (("axiom", 0),)))
        self.assertEqual(rising_half((0, ((),)), (0,), (("axiom", 0),), ()), (1, (("axiom", 0),)))

    def test_b_is_followed_where_its_clause_is_true(self):
        # The step 4 comes from the first side alone and is kept for 1 false, too, where (-1, 3) is true.
        formula = (3, ((-3,), (-2,), (-1, 3), (1, 2), (1, 3)))
        steps = (("axiom", 4), ("axiom", 2), ("resolve", 0, 1, 1), ("axiom", 0), ("resolve", 2, 3, 3))
        for division in divisions(formula):
            if plain_rising(formula, division):
                self.check_half(formula, division, steps)
        # 1 is common, and the clause (-1, 2) of the last but one step is weakened from one of the first side.
        formula = (2, ((), (-1,), (1,)))
        steps = (("axiom", 2), ("axiom", 0), ("weaken", 1, (-1, 2)), ("resolve", 0, 2, 1), ("axiom", 0), ("weaken", 4, (-2,)), ("resolve", 3, 5, 2))
        for division in ((0, 2), (0,), (2,), (0, 1, 2), ()):
            if plain_rising(formula, division):
                self.check_half(formula, division, steps)
        self.check_half(formula, (0, 2), steps[:4] + (("weaken", 1, (-2,)), ("resolve", 3, 4, 2)))

    def test_values_that_differ(self):
        # The value of `choose` would be True for 1 false: then the gate a counts, and it is one of the second side.
        formula = (2, ((), (-1,), (1,), (1, 2)))
        steps = (("axiom", 1), ("axiom", 0), ("weaken", 1, (-1,)), ("axiom", 2), ("resolve", 3, 2, 1))
        self.assertEqual(rising_interpolant(formula, (0, 3), steps)[-1], ("need", 1, 3, 2))
        self.assertGreater(self.check_half(formula, (0, 3), steps), 0)

    def test_one_side_alone(self):
        for formula, steps in oracles.random_refutations(414, 40):
            self.check_half(formula, (), steps)
            self.check_half(formula, tuple(range(len(formula[1]))), steps)

    def test_random(self):
        source = random.Random(64)
        different = 0
        for formula, division, steps in rising_refutations(415, 300, source):
            different += self.check_half(formula, division, steps)
            self.check_half(formula, division, solve(formula)[1])
        self.assertGreater(different, 5)

    def test_families(self):
        source = random.Random(65)
        for formula in (chain_formula(7), pebble_formula([[], [], [1, 2], [1, 3], [2, 4]]), pigeon_formula(3, 2), order_formula(4)):
            steps = solve(formula)[1]
            indexes = range(len(formula[1]))
            rows = [tuple(at for at in indexes if not any(x < 0 for x in formula[1][at])), tuple(indexes[1:]), tuple(indexes[:1])]
            rows += [tuple(at for at in indexes if source.random() < 0.5) for _ in range(200)]
            count = 0
            for division in rows:
                if plain_rising(formula, division):
                    count += 1
                    self.check_half(formula, division, steps)
            self.assertGreater(count, 0)


class FallingDivision(unittest.TestCase):
    def test_examples(self):
        names, other, indexes = falling_division(ONE, (0,))
        self.assertEqual((names, other, indexes), ((-1,), ONE, (1,)))
        self.assertIs(is_rising(other, indexes), True)
        self.assertEqual(falling_division(ONE, (1,)), ((1,), ONE, (1,)))
        self.assertEqual(falling_division(ONE, ()), ((1,), ONE, ()))
        self.assertEqual(falling_division((0, ()), ()), ((), (0, ()), ()))
        # 3 is not common, 2 is always negated in the first side, and 1 is positive there.
        formula = (3, ((-3, -2, 1), (-2,), (-1, 2), (3,)))
        self.assertEqual(falling_division(formula, (0, 1, 3)), ((1, -2, 3), (3, ((-3, 1, 2), (-2, -1), (2,), (3,))), (0, 2, 3)))

    def test_one_that_does_not_become_rising(self):
        formula = (2, ((-2, 1), (-1, 2), (1, 2)))
        names, other, indexes = falling_division(formula, (0, 1))
        self.assertEqual((names, other, indexes), ((1, 2), formula, (0, 1)))
        self.assertIs(is_rising(other, indexes), False)

    def test_random(self):
        source = random.Random(66)
        became = stayed = 0
        for formula in list(oracles.random_formulas(416, 80, 5, 8)) + [formula for formula, _ in oracles.random_refutations(417, 40)]:
            for _ in range(6):
                division = tuple(at for at in range(len(formula[1])) if source.random() < 0.5)
                before = copy.deepcopy((formula, division))
                found = falling_division(formula, division)
                self.assertIs(type(found), tuple)
                names, other, indexes = found
                common = common_variables(formula, division)
                first = {x for at in division for x in formula[1][at]}
                self.assertEqual(names, tuple(-v if v in common and v not in first else v for v in range(1, formula[0] + 1)))
                self.assertEqual(other, renamed(formula, names))
                wanted = sorted(other[1].index(tuple(sorted(names[abs(x) - 1] * (1 if x > 0 else -1) for x in formula[1][at])))
                                for at in division)
                self.assertEqual(indexes, tuple(wanted))
                rises = all(not (v in first and -v in first) for v in common)
                self.assertIs(is_rising(other, indexes), rises)
                became += rises and not plain_rising(formula, division)
                stayed += not rises
                self.assertEqual(before, (formula, division))
        self.assertGreater(min(became, stayed), 40)

    def test_refutations_go_with_them(self):
        source = random.Random(67)
        count = 0
        for formula, steps in oracles.random_refutations(418, 60):
            for division in divisions(formula):
                if source.random() < 0.1:
                    names, other, indexes = falling_division(formula, division)
                    if is_rising(other, indexes):
                        turned = renamed_steps(formula, names, steps)
                        for cube in cubes_of(common_variables(other, indexes)):
                            side, left = rising_half(other, indexes, turned, cube)
                            count += 1
                            self.assertIs(is_refutation(restricted(side_formula(other, indexes, side), cube), left), True)
        self.assertGreater(count, 100)
