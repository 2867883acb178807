"""Interpolants that grow with the common variables."""

from rebut.clauses import renamed
from rebut.errors import NotRising
from rebut.sides import Halves, common_variables, gate_value, interpolant, side_formula
from rebut.translations import renamed_places


def first_literals(formula, division):
    """The list of the literals of all clauses of the first side."""
    return [literal for clause in side_formula(formula, division, 1)[1] for literal in clause]


def is_rising(formula, division):
    """Whether no common variable is negated in a clause of the first side."""
    literals = first_literals(formula, division)
    return not any([-v in literals for v in common_variables(formula, division)])


def rising_gate(gate):
    """The rising gate in place of one of an interpolant."""
    return ("need", *gate[1:]) if gate[0] == "choose" else gate


def rising_interpolant(formula, division, steps):
    """The rising circuit that tells for each cube of the common variables which side has no model."""
    if not is_rising(formula, division):
        raise NotRising("a common variable is negated in the first side")
    return tuple([rising_gate(gate) for gate in interpolant(formula, division, steps)])


def rising_values(circuit, cube):
    """The list of the values of all gates of a rising circuit."""
    known = []
    for gate in circuit:
        if gate[0] == "need":
            known.append(known[gate[3]] and (gate[1] in cube or known[gate[2]]))
        else:
            known.append(gate_value(gate, known, cube))
    return known


def rising_value(circuit, cube):
    """The value of the last gate of a rising circuit."""
    return rising_values(circuit, cube)[-1]


def rising_half(formula, division, steps, cube):
    """The side without a model, by the rising interpolant, and a refutation of it."""
    values = rising_values(rising_interpolant(formula, division, steps), cube)
    # Clauses of the first side have no negated common variables, so what is kept there is kept also for clauses
    # that only a false common variable makes true.
    positive = tuple([literal for literal in cube if literal > 0])
    return Halves(formula, division, cube, positive).half_of(formula, steps, values)


def falling_division(formula, division):
    """Names that turn the common variables that the first side only negates, the renamed formula and its division."""
    literals = first_literals(formula, division)
    common = common_variables(formula, division)
    names = tuple([-v if v in common and v not in literals else v for v in range(1, formula[0] + 1)])
    places = renamed_places(formula, names)
    return (names, renamed(formula, names), tuple(sorted([places[at] for at in division])))
