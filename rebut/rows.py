"""Rows of steps, lines and cuts: each one names the places of those that it uses."""

from rebut.errors import WrongStep

# How many places of earlier ones stand behind the first word.
EARLIER = {"axiom": 0, "resolve": 2, "weaken": 1, "add": 2, "times": 1}


def followed(parts, follow):
    """The list of what a function makes of the parts of a row, up to the first one of which it makes None.

    The function is called with the list of what it has made so far, and the next part.
    """
    known = []
    for part in parts:
        found = follow(known, part)
        if found is None:
            return known
        known.append(found)
    return known


def all_known(known, parts):
    """The list of what is known of the parts of a row; raises WrongStep if it is not known of all of them."""
    if len(known) < len(parts):
        raise WrongStep(len(known))
    return known


def earlier_steps(step):
    """The list of the places of the earlier steps, or lines, that one uses."""
    return list(step[1:1 + EARLIER[step[0]]])


def moved_step(step, places):
    """The step, or line, with a list of other places for the earlier ones that it uses."""
    return (step[0], *places, *step[1 + len(places):])


def used_steps(steps):
    """For each step, or line, whether it is used, directly or indirectly, for the last one, or is the last one."""
    used = [False] * len(steps)
    used[-1] = True
    for at in reversed(range(len(steps))):
        if used[at]:
            for earlier in earlier_steps(steps[at]):
                used[earlier] = True
    return used


def without_unused(steps):
    """The tuple of the steps, or lines, that are used for the last one, with their places changed to fit."""
    used = used_steps(steps)
    kept = []
    places = []
    for at, step in enumerate(steps):
        places.append(len(kept))
        if used[at]:
            kept.append(moved_step(step, [places[earlier] for earlier in earlier_steps(step)]))
    return tuple(kept)


class Row:
    """A row that grows."""

    def __init__(self):
        self.parts = []

    def added(self, part):
        """Adds a step, line or cut and returns its place."""
        self.parts.append(part)
        return len(self.parts) - 1

    def summed(self, places):
        """Adds the sums of what stands at some places, one after the other, and returns the place of the last one."""
        total = places[0]
        for place in places[1:]:
            total = self.added(("add", total, place))
        return total
