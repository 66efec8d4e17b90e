"""Systems of equations: solving them, and showing that they have no solution."""

from math import gcd

from unbent.errors import InvalidSystem, TooLarge
from unbent.lines import common_divisor, whole_line
from unbent.ratios import dot, make

_LIMIT = 72


def _check_lengths(rows):
    for row in rows:
        if len(row) != len(rows[0]):
            raise InvalidSystem("rows")


def _check_size(rows):
    if len(rows) > _LIMIT:
        raise TooLarge("rows")
    if _width(rows) > _LIMIT:
        raise TooLarge("columns")


def _width(rows):
    return len(rows[0]) if rows else 0


def _column(rows, at):
    return [row[at] for row in rows]


def _without(line, pivot, column):
    """Return the line, changed by a multiple of the pivot so that its item in the column is 0."""
    if line[column] == 0:
        return line
    common = gcd(line[column], pivot[column])
    times = pivot[column] // common
    factor = line[column] // common
    mixed = [times * a - factor * b for a, b in zip(line, pivot)]
    divisor = common_divisor(0, mixed)
    if divisor < 2:
        return mixed
    return [number // divisor for number in mixed]


def _first_with(lines, column):
    """Return the index of the first line whose item in the column is not 0, or None."""
    for at, line in enumerate(lines):
        if line[column] != 0:
            return at
    return None


def _eliminated(lines, width):
    """Return (pivots, rest).

    The pivots are pairs (column, line), one for each column that does not depend on those to
    its left; each line is 0 in the columns of the others. The lines of rest are 0 everywhere.
    """
    pivots = []
    rest = lines
    for column in range(width):
        at = _first_with(rest, column)
        if at is not None:
            pivot = rest[at]
            others = rest[:at] + rest[at + 1:]
            rest = [_without(line, pivot, column) for line in others]
            pivots = [(place, _without(line, pivot, column)) for place, line in pivots]
            pivots.append((column, pivot))
    return pivots, rest


def _solution(rows, bounds):
    """Return the solution that is 0 at all columns that depend on those to their left, or None."""
    width = _width(rows)
    lines = [whole_line(list(row) + [bound])[1] for row, bound in zip(rows, bounds)]
    pivots, rest = _eliminated(lines, width)
    for line in rest:
        if line[width] != 0:
            return None
    found = [(0, 1)] * width
    for column, line in pivots:
        found[column] = make(line[width], line[column])
    return found


def _contradiction(rows, bounds):
    # The factors solve a system of their own: 0 in each column, and 1 for the bounds.
    width = _width(rows)
    columns = [_column(rows, at) for at in range(width)]
    return _solution(columns + [list(bounds)], [(0, 1)] * width + [(1, 1)])


def solve(rows, bounds):
    """Return ("solution", values), or ("contradiction", factors) if there is no solution."""
    _check_lengths(rows)
    if len(bounds) != len(rows):
        raise InvalidSystem("bounds")
    _check_size(rows)
    found = _solution(rows, bounds)
    if found is not None:
        return "solution", found
    return "contradiction", _contradiction(rows, bounds)


def rank(rows):
    """Return the number of columns that do not depend on those to their left."""
    _check_lengths(rows)
    _check_size(rows)
    pivots, _ = _eliminated([whole_line(row)[1] for row in rows], _width(rows))
    return len(pivots)


def is_solution(rows, bounds, values):
    """Return True if the values solve the system."""
    if len(values) != _width(rows):
        return False
    return all(dot(row, values) == bound for row, bound in zip(rows, bounds))


def is_contradiction(rows, bounds, factors):
    """Return True if the factors show that the system has no solution."""
    if len(factors) != len(rows) or dot(factors, bounds) == (0, 1):
        return False
    return all(dot(factors, _column(rows, at)) == (0, 1) for at in range(_width(rows)))
