"""Tables that show how long trees of queries must take."""

from rebut.clauses import ascends, extended, falsified, is_clause
from rebut.forms import is_integer, is_tuple

TABLE_KINDS = ("depth", "rank", "leaves")


def least_number(kind):
    """The number of a cube that is not in a table for a kind."""
    return 1 if kind == "leaves" else 0


def number_in(kind, table, cube):
    """The number of a cube in a table for a kind."""
    for other, number in table:
        if other == cube:
            return number
    return least_number(kind)


def is_pair(n, value):
    """Whether any value is a pair of a cube and an integer that is at least 1."""
    if not is_tuple(value) or len(value) != 2:
        return False
    return is_clause(n, value[0]) and is_integer(value[1]) and value[1] >= 1


def has_table_form(n, value):
    """Whether any value is an ascending tuple of pairs with different cubes."""
    if not is_tuple(value):
        return False
    for pair in value:
        if not is_pair(n, pair):
            return False
    return ascends([pair[0] for pair in value])


def is_enough(kind, number, low, high):
    """Whether a number is right for a cube, where the cubes with one more literal have two others."""
    if kind == "depth":
        return low >= number - 1 or high >= number - 1
    if kind == "rank":
        return low >= number or high >= number or (low >= number - 1 and high >= number - 1)
    return low + high >= number


def is_right_at(formula, kind, numbers, cube):
    """Whether a cube, one of those in a dictionary of numbers, has a right number."""
    number = numbers[cube]
    if kind == "leaves" and number == 1:
        return True
    if falsified(formula, cube) >= 0:
        return False
    least = least_number(kind)
    for v in range(1, formula[0] + 1):
        if v not in cube and -v not in cube:
            low = numbers.get(extended(cube, -v), least)
            high = numbers.get(extended(cube, v), least)
            if not is_enough(kind, number, low, high):
                return False
    return True


def is_table(formula, kind, value):
    """Whether any value is a right table for one of the three kinds."""
    if kind not in TABLE_KINDS or not has_table_form(formula[0], value):
        return False
    numbers = {cube: number for cube, number in value}
    for cube in numbers:
        if not is_right_at(formula, kind, numbers, cube):
            return False
    return True
