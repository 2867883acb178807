"""Refutations of two sides together: interpolants, and refutations of one side."""

from rebut.clauses import satisfies, variables_of
from rebut.resolution import Narrowing, clauses_of


def side_formula(formula, division, side):
    """The formula with the clauses of the side 1 or 2."""
    n, clauses = formula
    return (n, tuple([clause for at, clause in enumerate(clauses) if (at in division) == (side == 1)]))


def common_variables(formula, division):
    """The ascending list of the variables that occur in clauses of both sides."""
    second = variables_of(side_formula(formula, division, 2))
    return [v for v in variables_of(side_formula(formula, division, 1)) if v in second]


def gate_of_step(step, division, common, second):
    """The gate for a step, with the common variables and those of the second side."""
    if step[0] == "axiom":
        return ("false",) if step[1] in division else ("true",)
    if step[0] == "weaken":
        return ("same", step[1])
    _, a, b, v = step
    if v in common:
        return ("choose", v, a, b)
    return ("and", a, b) if v in second else ("or", a, b)


def interpolant(formula, division, steps):
    """The circuit that tells for each cube of the common variables which side has no model."""
    common = common_variables(formula, division)
    second = variables_of(side_formula(formula, division, 2))
    return tuple([gate_of_step(step, division, common, second) for step in steps])


def gate_value(gate, known, cube):
    """The value of a gate behind gates with known values."""
    word = gate[0]
    if word == "same":
        return known[gate[1]]
    if word == "or":
        return known[gate[1]] or known[gate[2]]
    if word == "and":
        return known[gate[1]] and known[gate[2]]
    if word == "choose":
        return known[gate[3]] if gate[1] in cube else known[gate[2]]
    return word == "true"


def gate_values(circuit, cube):
    """The list of the values of all gates of a circuit."""
    known = []
    for gate in circuit:
        known.append(gate_value(gate, known, cube))
    return known


def circuit_value(circuit, cube):
    """The value of the last gate of a circuit."""
    return gate_values(circuit, cube)[-1]


class Halves:
    """What is left over of a refutation on each side when the literals of a cube are true."""

    def __init__(self, formula, division, cube, first_cube):
        # By the values of the gates: False keeps clauses of the first side, True those of the second one.
        self.sides = {False: Narrowing(side_formula(formula, division, 1), cube),
                      True: Narrowing(side_formula(formula, division, 2), cube)}
        # What makes a clause true such that nothing needs to be kept for its step, by the same values.
        self.idle = {False: first_cube, True: cube}
        # For each step, the value of its gate, and the place of the step that is kept for it on that side.
        self.gates = []
        self.places = []

    def take(self, step, clause, value):
        """Keeps a step for the next one, or None if none is needed."""
        self.places.append(None if satisfies(self.idle[value], clause) else self.kept(step, clause, value))
        self.gates.append(value)

    def kept(self, step, clause, value):
        """The place of what is kept for a step."""
        if step[0] == "axiom":
            return self.sides[value].place_of_axiom(clause)
        if step[0] == "weaken":
            return self.places[step[1]]
        _, a, b, v = step
        if self.gates[a] == self.gates[b]:
            return self.sides[value].place_of_resolve(self.places[a], self.places[b], v)
        return self.places[a] if self.gates[a] == value else self.places[b]

    def half_of(self, formula, steps, values):
        """The side without a model and a refutation of it, from one of both sides and the values of its gates."""
        for step, clause, value in zip(steps, clauses_of(formula, steps), values):
            self.take(step, clause, value)
        return (2 if values[-1] else 1, self.sides[values[-1]].steps_to(self.places[-1]))


def half(formula, division, steps, cube):
    """The side without a model, for a cube of the common variables, and a refutation of it."""
    values = gate_values(interpolant(formula, division, steps), cube)
    return Halves(formula, division, cube, cube).half_of(formula, steps, values)
