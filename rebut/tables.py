"""Tables that show how long trees of queries must take."""

from rebut.clauses import ascends, extended, falsified, is_clause
from rebut.forms import is_integer, is_tuple, is_tuple_of

TABLE_KINDS = ("depth", "rank", "leaves")


def least_number(kind):
    """The number of a cube that is not in a table for a kind."""
    return 1 if kind == "leaves" else 0


def number_in(kind, table, cube):
    """The number of a cube in a table for a kind."""
    for other, number in table:
        if other == cube:
            return number
    return least_number(kind)


def is_pair(n, value):
    """Whether any value is a pair of a cube and an integer that is at least 1."""
    if not is_tuple(value) or len(value) != 2:
        return False
    return is_clause(n, value[0]) and is_integer(value[1]) and value[1] >= 1


def has_table_form(n, value):
    """Whether any value is an ascending tuple of pairs with different cubes."""
    return is_tuple_of(value, lambda pair: is_pair(n, pair)) and ascends([pair[0] for pair in value])


def is_enough(kind, number, low, high):
    """Whether a number is right for a cube, where the cubes with one more literal have two others."""
    if kind == "depth":
        return low >= number - 1 or high >= number - 1
    if kind == "rank":
        return low >= number or high >= number or (low >= number - 1 and high >= number - 1)
    return low + high >= number


def is_right_at(formula, kind, numbers, cube):
    """Whether a cube, one of those in a dictionary of numbers, has a right number."""
    number = numbers[cube]
    if kind == "leaves" and number == 1:
        return True
    if falsified(formula, cube) >= 0:
        return False
    least = least_number(kind)
    for v in range(1, formula[0] + 1):
        if v not in cube and -v not in cube:
            low = numbers.get(extended(cube, -v), least)
            high = numbers.get(extended(cube, v), least)
            if not is_enough(kind, number, low, high):
                return False
    return True


def is_table(formula, kind, value):
    """Whether any value is a right table for one of the three kinds."""
    if kind not in TABLE_KINDS or not has_table_form(formula[0], value):
        return False
    numbers = {cube: number for cube, number in value}
    for cube in numbers:
        if not is_right_at(formula, kind, numbers, cube):
            return False
    return True


class Bounds:
    """What is known of the least numbers, of one kind, of the trees behind cubes."""

    def __init__(self, formula, kind):
        self.given = formula
        self.kind = kind
        self.base = least_number(kind)
        # For each cube that has been looked at, a number that no tree behind it is below.
        self.numbers = {}
        # For each cube of which the least number is known, a tree with this number.
        self.trees = {}

    def least(self, cube, most):
        """The least number of a tree behind a cube, or `most` if none is below it; `most` is at least the base."""
        known = self.numbers.get(cube, self.base)
        if known >= most or cube in self.trees:
            return min(known, most)
        index = falsified(self.given, cube)
        if index >= 0:
            self.trees[cube] = ("leaf", index)
            return self.base
        self.numbers[cube] = self.least_of_questions(cube, most)
        return self.numbers[cube]

    def least_of_questions(self, cube, most):
        """As `least`, for a cube that falsifies no clause; keeps the best tree that is below `most`."""
        for v in range(1, self.given[0] + 1):
            # A tree that is no leaf cannot be below the base and one more.
            if v not in cube and -v not in cube and most > self.base + 1:
                low, high = extended(cube, -v), extended(cube, v)
                number = self.number_of_both(low, high, most)
                if number < most:
                    most = number
                    self.trees[cube] = ("ask", v, self.trees[low], self.trees[high])
        return most

    def number_of_both(self, low, high, most):
        """The least number of a question with two cubes behind it, or `most` if it is not below it."""
        if self.kind == "rank":
            return self.rank_of_both(low, high, most)
        first = self.least(low, most - 1)
        if first == most - 1:
            return most
        if self.kind == "leaves":
            return first + self.least(high, most - first)
        return 1 + max(first, self.least(high, most - 1))

    def rank_of_both(self, low, high, most):
        """As `number_of_both`, for the rank."""
        first = self.least(low, most - 1)
        second = self.least(high, most - 1)
        if first == second:
            return first + 1
        # The greater one decides, so it has to be known one further.
        return max(self.least(low, most), self.least(high, most))


def decide_tree(formula, kind, k):
    """A right paper for a question of one of the three kinds."""
    bounds = Bounds(formula, kind)
    if bounds.least((), k + 1) <= k:
        return ("yes", bounds.trees[()])
    numbers = bounds.numbers
    return ("no", tuple([(cube, numbers[cube]) for cube in sorted(numbers)]))
