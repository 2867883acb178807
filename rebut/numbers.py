"""The numbers of formulas: the least ones for which the answers are yes."""

from rebut.errors import BadQuestion, HasModel
from rebut.papers import KINDS, decide, is_kind
from rebut.solving import solve


def check_no_model(formula):
    """Raises HasModel if a formula has a model."""
    if solve(formula)[0] == "model":
        raise HasModel("the formula has a model")


def least_yes(formula, kind):
    """What `number_of` returns, for a formula without a model."""
    papers = {}
    # The answer is no for `low`, which may be -1, and yes for `high`, once it has been found.
    low, high = -1, 0
    papers[high] = decide(formula, (kind, high))
    while papers[high][0] == "no":
        low, high = high, 2 * high + 1
        papers[high] = decide(formula, (kind, high))
    while high - low > 1:
        middle = (low + high) // 2
        papers[middle] = decide(formula, (kind, middle))
        if papers[middle][0] == "no":
            low = middle
        else:
            high = middle
    return (high, papers[high], papers.get(low))


def number_of(formula, kind):
    """The number for a kind, a paper for it, and one for the number before it or None."""
    if not is_kind(kind):
        raise BadQuestion("there is no such kind")
    check_no_model(formula)
    return least_yes(formula, kind)


def numbers(formula):
    """The dictionary from the six kinds to the numbers."""
    check_no_model(formula)
    return {kind: least_yes(formula, kind)[0] for kind in KINDS}
