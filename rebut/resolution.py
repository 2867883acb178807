"""Derivations by resolution: what is right, their measures, and what can be made of them."""

from rebut.clauses import is_clause, made_clause, restricted, satisfies, without_false
from rebut.forms import has_form, is_index, is_tuple, is_variable
from rebut.rows import Row, all_known, earlier_steps, followed, moved_step, without_unused


def resolvent(first, second, v):
    """The clause of all literals of two clauses without v and -v, or None if they form no clause."""
    return made_clause([literal for literal in first + second if abs(literal) != v])


def contains(clause, part):
    """Whether a clause contains all literals of another one."""
    return all([literal in clause for literal in part])


def right_resolvent(n, first, second, v):
    """The clause of all literals of two clauses without v and -v, or None if any value v is not right for them."""
    if not is_variable(n, v) or v not in first or -v not in second:
        return None
    return resolvent(first, second, v)


def clause_of_resolve(formula, clauses, step):
    """The clause of a tuple of the form of a resolution behind steps with some clauses, or None if it is wrong."""
    if not is_index(step[1], len(clauses)) or not is_index(step[2], len(clauses)):
        return None
    return right_resolvent(formula[0], clauses[step[1]], clauses[step[2]], step[3])


def clause_of_weaken(formula, clauses, step):
    """The clause of a tuple of the form of a weakening behind steps with some clauses, or None if it is wrong."""
    if not is_index(step[1], len(clauses)) or not is_clause(formula[0], step[2]):
        return None
    if not contains(step[2], clauses[step[1]]):
        return None
    return step[2]


def clause_of_step(formula, clauses, step):
    """The clause of any value behind steps with some clauses, or None if the value is no right step."""
    if has_form(step, "axiom", 2) and is_index(step[1], len(formula[1])):
        return formula[1][step[1]]
    if has_form(step, "resolve", 4):
        return clause_of_resolve(formula, clauses, step)
    if has_form(step, "weaken", 3):
        return clause_of_weaken(formula, clauses, step)
    return None


def right_clauses(formula, steps):
    """The clauses of the steps of a tuple before the first one that is not right."""
    return followed(steps, lambda clauses, step: clause_of_step(formula, clauses, step))


def clauses_of(formula, steps):
    """The clauses of the steps of a derivation; raises WrongStep if a step is not right."""
    return all_known(right_clauses(formula, steps), steps)


def is_refutation(formula, value):
    """Whether any value is a refutation of a formula."""
    if not is_tuple(value) or not value:
        return False
    clauses = right_clauses(formula, value)
    return len(clauses) == len(value) and clauses[-1] == ()


def step_width(formula, steps):
    """The greatest width of the clauses of a derivation."""
    return max([len(clause) for clause in clauses_of(formula, steps)])


def step_depth(steps):
    """The greatest number of steps `resolve` on a way from the last step back to an axiom."""
    depths = []
    for step in steps:
        own = 1 if step[0] == "resolve" else 0
        depths.append(own + max([depths[at] for at in earlier_steps(step)], default=0))
    return depths[-1]


def is_treelike(steps):
    """Whether each step but the last one, which no later step can use, is used exactly once."""
    uses = [0] * len(steps)
    for step in steps:
        for at in earlier_steps(step):
            uses[at] += 1
    return all([count == 1 for count in uses[:-1]])


def is_regular(steps):
    """Whether no two steps `resolve` on a way from the last step back to an axiom have the same variable."""
    # For each step, the variables of the steps `resolve` from it back, as the bits of a number.
    below = []
    for step in pruned(steps):
        variables = 0
        for at in earlier_steps(step):
            variables = variables | below[at]
        if step[0] == "resolve":
            bit = 1 << step[3]
            if variables & bit:
                return False
            variables = variables | bit
        below.append(variables)
    return True


def pruned(steps):
    """The derivation without the steps that are not used for the last one."""
    return without_unused(steps)


def strict_steps(formula, steps):
    """A refutation without steps `weaken`, with at most as many steps and at most the same width."""
    # Nothing is restricted by the empty cube, and what restricts a refutation leaves no weakening over.
    return restricted_steps(formula, steps, ())


class Derivation(Row):
    """A derivation that grows, with the clauses of its steps."""

    def __init__(self):
        Row.__init__(self)
        self.clauses = []

    def stepped(self, step, clause):
        """Adds a step with its clause and returns its index."""
        self.clauses.append(clause)
        return self.added(step)

    def resolved(self, first, second, v):
        """Adds the step that resolves two steps on v and returns its index."""
        return self.stepped(("resolve", first, second, v), resolvent(self.clauses[first], self.clauses[second], v))

    def resolved_if_needed(self, first, second, v):
        """The index of a step that resolves two steps on v, or of the one whose clause has not the literal of v."""
        if v not in self.clauses[first]:
            return first
        if -v not in self.clauses[second]:
            return second
        return self.resolved(first, second, v)

    def taken_away(self, at, reason, literal):
        """Adds the step that takes the negation of a literal from the clause of a step; returns its index.

        The clause of the step `reason` has the literal.
        """
        if literal > 0:
            return self.resolved(reason, at, literal)
        return self.resolved(at, reason, -literal)

    def steps_to(self, place):
        """The derivation of one of the steps, without those that are not used for it."""
        return pruned(self.parts[:place + 1])


class Narrowing(Derivation):
    """The steps that are left over of a refutation when the literals of a cube are true."""

    def __init__(self, formula, cube):
        Derivation.__init__(self)
        self.cube = cube
        self.axioms = {clause: at for at, clause in enumerate(restricted(formula, cube)[1])}

    def place_of_axiom(self, clause):
        """The index of a new step for an axiom whose clause the cube does not satisfy."""
        left = without_false(clause, self.cube)
        return self.stepped(("axiom", self.axioms[left]), left)

    def place_of_resolve(self, first, second, v):
        """The index of the step for a resolution on v, where two steps stand for the earlier ones."""
        if v in self.cube:
            return second
        if -v in self.cube:
            return first
        return self.resolved_if_needed(first, second, v)


def restricted_steps(formula, steps, cube):
    """A refutation of the restricted formula with at most as many steps and at most the same width."""
    left = Narrowing(formula, cube)
    # For each step whose clause the cube does not satisfy, a step whose clause is contained in it.
    places = []
    for step, clause in zip(steps, clauses_of(formula, steps)):
        if satisfies(cube, clause):
            places.append(None)
        elif step[0] == "axiom":
            places.append(left.place_of_axiom(clause))
        elif step[0] == "weaken":
            places.append(places[step[1]])
        else:
            places.append(left.place_of_resolve(places[step[1]], places[step[2]], step[3]))
    return left.steps_to(places[-1])


def unfolded(steps):
    """The treelike derivation in which every step is repeated as often as it is used."""
    # For each step, the number of the steps that stand for it, with all that it uses.
    sizes = []
    for step in steps:
        sizes.append(1 + sum([sizes[at] for at in earlier_steps(step)]))
    # The steps in the wanted order, from the last one to the first one.
    order = []
    waiting = [len(steps) - 1]
    while waiting:
        at = waiting.pop()
        order.append(at)
        waiting.extend(earlier_steps(steps[at]))
    order.reverse()
    return tuple([placed_step(steps[at], place, sizes) for place, at in enumerate(order)])


def placed_step(step, place, sizes):
    """The step at a place behind the steps that stand for its earlier ones, which have some sizes."""
    places = []
    behind = place
    for at in reversed(earlier_steps(step)):
        places.append(behind - 1)
        behind = behind - sizes[at]
    places.reverse()
    return moved_step(step, places)
