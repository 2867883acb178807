"""Narrow refutations from trees of a small rank."""

from rebut.resolution import Derivation
from rebut.trees import tree_rank


class TreeSteps(Derivation):
    """The steps by which a tree is followed."""

    def __init__(self, formula):
        Derivation.__init__(self)
        self.given = formula

    def followed(self, tree, answers):
        """Adds steps for a tree, the last one with a clause of negations of assumed answers; returns its index.

        The answers are pairs of a literal and None, if it is assumed, or the index of a step whose clause has the
        literal and, besides it, only negations of assumed ones.
        """
        if tree[0] == "leaf":
            return self.cleared(tree[1], answers)
        assumed, first, second = -tree[1], tree[2], tree[3]
        # What is assumed may stay in clauses, and the smaller rank has room for one literal more.
        if tree_rank(first) > tree_rank(second):
            assumed, first, second = tree[1], tree[3], tree[2]
        reason = self.followed(first, [*answers, (assumed, None)])
        if -assumed not in self.clauses[reason]:
            return reason
        return self.followed(second, [*answers, (-assumed, reason)])

    def cleared(self, index, answers):
        """As `followed`, for a leaf with the index of a clause."""
        at = self.stepped(("axiom", index), self.given[1][index])
        for literal, reason in answers:
            if reason is not None and -literal in self.clauses[at]:
                at = self.taken_away(at, reason, literal)
        return at


def narrow_steps(formula, tree):
    """A refutation whose width is at most that of the formula and the rank of a right tree together."""
    steps = TreeSteps(formula)
    return steps.steps_to(steps.followed(tree, []))
