"""Linear programs: a goal, rows of bounds, and the points that fit them."""

from unbent.errors import InvalidProgram, TooLarge
from unbent.ratios import compare, dot

_MOST_VARIABLES = 160
_MOST_ROWS = 400
_SIGNS = ("at least", "at most", "exactly")


class Program:
    """Asks for the greatest value of the goal at the points that fit the rows."""

    def __init__(self, variables, *, free, goal, rows):
        _check_size(variables, rows)
        _check_form(variables, free, goal, rows)
        self.variables = variables
        self.free = list(free)
        self.goal = list(goal)
        self.rows = [(list(numbers), relation, bound) for numbers, relation, bound in rows]


def _check_size(variables, rows):
    if variables > _MOST_VARIABLES:
        raise TooLarge("variables")
    if len(rows) > _MOST_ROWS:
        raise TooLarge("rows")


def _check_form(variables, free, goal, rows):
    if variables < 0:
        raise InvalidProgram("variables")
    if len(free) != variables:
        raise InvalidProgram("free")
    if len(goal) != variables:
        raise InvalidProgram("goal")
    for numbers, relation, _ in rows:
        if len(numbers) != variables or relation not in _SIGNS:
            raise InvalidProgram("rows")


def agrees(relation, order):
    """Return True if an amount may have this order (-1, 0, 1) to the bound of a row of this sign."""
    if relation == "at least":
        return order >= 0
    if relation == "at most":
        return order <= 0
    return order == 0


def keeps_signs(program, point):
    """Return True if the list has an item for each variable, and each is free or at least 0."""
    if len(point) != program.variables:
        return False
    return all(free or item[0] >= 0 for free, item in zip(program.free, point))


def fits_rows(program, rows, point):
    """Return True if the point fits the program with these rows in place of its own."""
    if not keeps_signs(program, point):
        return False
    for numbers, relation, bound in rows:
        if not agrees(relation, compare(dot(numbers, point), bound)):
            return False
    return True


def fits(program, point):
    """Return True if the point fits the program."""
    return fits_rows(program, program.rows, point)


def value_of(program, point):
    """Return the value of the point, which has one item for each variable."""
    return dot(program.goal, point)


def with_rows(program, rows):
    """Return a program with further rows behind those of the program."""
    return Program(program.variables, free=program.free, goal=program.goal, rows=program.rows + list(rows))
