"""Refutations of families."""

from rebut.families import (chain_formula, odd_parity_formula, order_formula, order_literals, parity_clauses,
                            parity_rows, pebble_formula)
from rebut.resolution import Derivation
from rebut.rows import Row


def places_of(formula):
    """The dictionary from the clauses of a formula to their indexes."""
    return {clause: at for at, clause in enumerate(formula[1])}


def chain_between(low, high, places):
    """The tree for a chain in which the variable `low` is true and `high` is false; 0 stands for what is true."""
    middle = (low + high) // 2
    if middle > low:
        return ("ask", middle, chain_between(low, middle, places), chain_between(middle, high, places))
    return ("leaf", places[(low, high)])


def chain_tree(n):
    """A right tree for a chain, with one leaf for each clause, that asks for the middle."""
    places = places_of(chain_formula(n))
    links = {(i, i + 1): places[(-i, i + 1)] for i in range(1, n)}
    links[(0, 1)] = places[(1,)]
    links[(n, n + 1)] = places[(-n,)]
    return chain_between(0, n + 1, links)


def chain_steps(n):
    """A refutation of a chain with a width of at most 2."""
    chain_formula(n)
    # A chain is made of pebbles each of which rests on the one before it.
    return pebble_steps([[]] + [[i] for i in range(1, n)])


class KnownSteps(Derivation):
    """A derivation from a formula whose clauses are known."""

    def __init__(self, formula):
        Derivation.__init__(self)
        self.places = places_of(formula)

    def axiom(self, literals):
        """Adds the step for the clause with some different literals and returns its index."""
        clause = tuple(sorted(literals))
        return self.stepped(("axiom", self.places[clause]), clause)


def pebble_steps(rows):
    """A refutation of a formula of pebbles that derives each variable from those that it lists."""
    steps = KnownSteps(pebble_formula(rows))
    derived = []
    for k, row in enumerate(rows):
        listed = sorted(set(row))
        at = steps.axiom([k + 1] + [-v for v in listed])
        for v in listed:
            at = steps.taken_away(at, derived[v - 1], v)
        derived.append(at)
    last = steps.axiom([-len(rows)])
    return steps.steps_to(steps.taken_away(last, derived[-1], len(rows)))


def order_steps(n):
    """A refutation of an order that takes its numbers away one by one."""
    steps = KnownSteps(order_formula(n))
    numbers = list(range(1, n + 1))
    before = order_literals(numbers)
    # For each number, the step which says that some other one of those that are left comes before it.
    places = [steps.axiom([before[(j, i)] for j in numbers if j != i]) for i in numbers]
    for k in reversed(range(2, n + 1)):
        last = places.pop()
        for i in range(1, k):
            at = last
            for j in range(1, k):
                if j != i:
                    cycle = steps.axiom([-before[(j, k)], -before[(k, i)], -before[(i, j)]])
                    at = steps.taken_away(at, cycle, -before[(j, k)])
            places[i - 1] = steps.taken_away(places[i - 1], at, -before[(k, i)])
    return steps.steps_to(places[0])


def parity_lines(vertices, edges, odd):
    """A calculation that refutes the parity formula of a graph by the sum of all clauses of all vertices."""
    places = places_of(odd_parity_formula(vertices, edges, odd))
    row = Row()
    clauses = [clause for variables, parity in parity_rows(edges, odd) for clause in parity_clauses(variables, parity)]
    row.summed([row.added(("axiom", places[clause])) for clause in clauses])
    return tuple(row.parts)
