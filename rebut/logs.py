"""Logs of learned clauses, each of which follows at once from those before it."""

from rebut.clauses import forced, gathered, is_clause, negated
from rebut.forms import is_tuple_of
from rebut.resolution import clauses_of
from rebut.solving import Search


def with_more(formula, clauses):
    """The formula with some more clauses of its variables."""
    return gathered(formula[0], [*formula[1], *clauses])


def follows_at_once(formula, clause):
    """Whether making all literals of a clause false forces what cannot be."""
    return forced(formula, negated(clause)) is None


def all_follow(formula, before, clauses):
    """Whether each of some clauses follows at once from a formula, clauses before them, and those before it."""
    for at, clause in enumerate(clauses):
        if not follows_at_once(with_more(formula, [*before, *clauses[:at]]), clause):
            return False
    return True


def is_log(formula, value):
    """Whether any value is a log for a formula."""
    if not is_tuple_of(value, lambda clause: is_clause(formula[0], clause)):
        return False
    return len(value) > 0 and value[-1] == () and all_follow(formula, (), value)


def log_of_steps(formula, steps):
    """The log of the clauses of a refutation."""
    return tuple(clauses_of(formula, steps))


def steps_of_log(formula, log):
    """A refutation that derives the clauses of a log, or parts of them, one after the other."""
    search = Search(formula)
    places = [search.derived(clause) for clause in log]
    return search.steps_to(places[-1])


def reasons_of(n, clauses, clause):
    """The list of the indexes of those of some clauses by which another one follows at once from them."""
    search = Search((n, clauses))
    return [step[1] for step in search.steps_to(search.derived(clause)) if step[0] == "axiom"]


def used_clauses(formula, log):
    """The log of those clauses of a log that are used, directly or indirectly, for the last one."""
    start = len(formula[1])
    clauses = formula[1] + log
    used = {len(clauses) - 1: True}
    for at in reversed(range(start, len(clauses))):
        if at in used:
            for reason in reasons_of(formula[0], clauses[:at], clauses[at]):
                used[reason] = True
    return tuple([clause for at, clause in enumerate(clauses) if at >= start and at in used])


def shortened_log(formula, log):
    """The log of some clauses of a log, in their order, of which none can be left out."""
    left = used_clauses(formula, log)
    # Whether an earlier clause is needed depends on the later ones that are kept, so these are settled first.
    kept = [left[-1]]
    for at in reversed(range(len(left) - 1)):
        if not all_follow(formula, left[:at], kept):
            kept = [left[at], *kept]
    return tuple(kept)
