"""The search for a certificate of a linear program.

A tableau writes some of the quantities, the basic ones, as sums of multiples of the others, the
columns, which are 0 at the point of the tableau. The quantities are the variables of the program,
numbered as there, and behind them the slack of each row: how far the row is from its bound. Rows
are added one at a time: if the slack of a new row is below 0, it is raised until it is 0, while
the slacks of the earlier rows stay at 0 or above. In the end the goal is raised.

Each line is a tuple (den, numbers): numbers has one integer for each column and behind them the
amount at the point and its tiny part, and all of them are divided by den. A tiny part is an
amount that is smaller than any fraction: each variable and each slack of a row that is not exact
may be below 0 by a tiny part of its own, so that it is rare that two of them stop a step at once.
These allowances only make it easier to fit, so a program that no point fits with them has none
without them; and amounts that are at least 0 with their tiny parts are at least 0 without them. So
the certificates, which leave the tiny parts out, hold for the program as it is.
"""

from math import gcd, lcm

from unbent.errors import TooLarge
from unbent.lines import lowest, whole_line
from unbent.ratios import make

_MOST_VARIABLES = 72
_MOST_ROWS = 200


class Tableau:
    """The state of the search."""

    def __init__(self, free, columns, basis, body, goal, turns, exact):
        self.free = free
        self.columns = list(columns)
        self.basis = list(basis)
        self.body = list(body)
        self.goal = goal
        # The slack of a row is its turn, 1 or -1, times the bound minus the sum of the row.
        self.turns = list(turns)
        self.exact = list(exact)


def begun(program):
    """Return the tableau of the program without its rows."""
    goal = whole_line(program.goal + [(0, 1), (0, 1)])
    columns = list(range(program.variables))
    return Tableau(list(program.free), columns, [], [], goal, [], [])


def copied(tableau):
    """Return a copy that can be changed while the tableau stays as it is."""
    return Tableau(tableau.free, tableau.columns, tableau.basis, tableau.body, tableau.goal,
                   tableau.turns, tableau.exact)


def _is_variable(tableau, quantity):
    return quantity < len(tableau.free)


def _is_free(tableau, quantity):
    return _is_variable(tableau, quantity) and tableau.free[quantity]


def _is_fixed(tableau, quantity):
    """Return True for the slack of an exact row: once it is 0, it must stay 0."""
    return not _is_variable(tableau, quantity) and tableau.exact[quantity - len(tableau.free)]


def _tiny_part(quantity):
    # Squares differ modulo a prime, as long as the numbers are below half of it.
    return 1 + 7919 * quantity * quantity % 1009


def _tiny_sum(tableau, whole):
    """Return how much the tiny parts of the variables add to the slack of a row."""
    found = 0
    for quantity, free in enumerate(tableau.free):
        if not free:
            found += whole[quantity] * _tiny_part(quantity)
    return found


def _slack_line(tableau, numbers, bound):
    """Return the line of the bound minus the sum of the row."""
    den, whole = whole_line(numbers + [bound])
    terms = [(whole[quantity], line) for quantity, line in zip(tableau.basis, tableau.body)
             if _is_variable(tableau, quantity) and whole[quantity] != 0]
    times = 1
    for _, line in terms:
        times = lcm(times, line[0])
    found = [-times * whole[quantity] if _is_variable(tableau, quantity) else 0
             for quantity in tableau.columns]
    found.append(times * whole[-1])
    found.append(times * _tiny_sum(tableau, whole))
    for number, line in terms:
        factor = number * (times // line[0])
        found = [a - factor * b for a, b in zip(found, line[1])]
    return lowest(den * times, found)


def _turned(line):
    return line[0], [-number for number in line[1]]


def _loosened(line, quantity):
    """Return the line of a slack with the tiny part by which it may be below 0."""
    numbers = list(line[1])
    numbers[-1] += line[0] * _tiny_part(quantity)
    return line[0], numbers


def _solved(line, column):
    """Return the line of the column, from the line of a basic quantity that contains it."""
    den, numbers = line
    pivot = numbers[column]
    if pivot < 0:
        solved = list(numbers)
        solved[column] = -den
    else:
        solved = [-number for number in numbers]
        solved[column] = den
    return abs(pivot), solved


def _replaced(line, column, other):
    """Return the line with the column replaced by what the other line says of it."""
    factor = line[1][column]
    if factor == 0:
        return line
    common = gcd(factor, other[0])
    times = other[0] // common
    factor = factor // common
    numbers = [times * a + factor * b for a, b in zip(line[1], other[1])]
    numbers[column] = factor * other[1][column]
    return lowest(line[0] * times, numbers)


def _exchange(tableau, place, column):
    """Make the column basic, in the place of a basic quantity, which becomes the column."""
    solved = _solved(tableau.body[place], column)
    lines = [_replaced(line, column, solved) for line in tableau.body]
    lines[place] = solved
    tableau.body = lines
    tableau.goal = _replaced(tableau.goal, column, solved)
    leaving = tableau.basis[place]
    tableau.basis[place] = tableau.columns[column]
    tableau.columns[column] = leaving


def _order(first, second):
    """Return -1, 0 or 1 as the first (amount, tiny, divisor) is less than, equal to, or greater."""
    left = (first[0] * second[2], first[1] * second[2])
    right = (second[0] * first[2], second[1] * first[2])
    if left == right:
        return 0
    return -1 if left < right else 1


def _first_stop(tableau, column, direction, target):
    """Return (place, size) of the quantity that stops a step first, or None if nothing stops it.

    Of several the target comes first, and then the least quantity.
    """
    best = None
    least = None
    for place, quantity in enumerate(tableau.basis):
        numbers = tableau.body[place][1]
        fall = -direction * numbers[column]
        if place == target:
            size = (-numbers[-2], -numbers[-1], -fall)
        elif fall > 0 and not _is_free(tableau, quantity):
            size = (numbers[-2], numbers[-1], fall)
        else:
            continue
        order = -1 if best is None else _order(size, least)
        if order == 0 and best != target and (place == target or quantity < tableau.basis[best]):
            order = -1
        if order < 0:
            best, least = place, size
    return None if best is None else (best, least)


def _free_step(tableau, numbers, target):
    """Return the step of a free column by which the line grows, or None."""
    for at, quantity in enumerate(tableau.columns):
        if numbers[at] != 0 and _is_free(tableau, quantity):
            direction = 1 if numbers[at] > 0 else -1
            stop = _first_stop(tableau, at, direction, target)
            return at, direction, None if stop is None else stop[0]
    return None


def _growing_step(tableau, numbers, target):
    """Return the step of another column by which the line grows most, or None.

    Of equal steps the one of the least quantity is taken: where no step gains anything, this is
    the choice by which no search goes in a circle.
    """
    best = None
    most = None
    for at, quantity in enumerate(tableau.columns):
        if numbers[at] > 0 and not _is_fixed(tableau, quantity):
            stop = _first_stop(tableau, at, 1, target)
            if stop is None:
                return at, 1, None
            place, size = stop
            growth = (size[0] * numbers[at], size[1] * numbers[at], size[2])
            order = 1 if best is None else _order(growth, most)
            if order > 0 or (order == 0 and quantity < tableau.columns[best[0]]):
                best, most = (at, 1, place), growth
    return best


def _raised(tableau, target):
    """Raise the target, a place whose amount is below 0, to 0, or the goal (None) as far as it goes.

    Return ("raised", 0, 0) if the target is 0 now, ("stuck", 0, 0) if it cannot be raised further,
    and ("endless", column, direction) if it can be raised without end.
    """
    while True:
        numbers = tableau.goal[1] if target is None else tableau.body[target][1]
        step = _free_step(tableau, numbers, target)
        if step is None:
            step = _growing_step(tableau, numbers, target)
        if step is None:
            return "stuck", 0, 0
        column, direction, place = step
        if place is None:
            return "endless", column, direction
        _exchange(tableau, place, column)
        if place == target:
            return "raised", 0, 0


def _open_column(tableau, numbers):
    """Return the first column that the line contains and that may become basic, or None."""
    for at, quantity in enumerate(tableau.columns):
        if numbers[at] != 0 and not _is_fixed(tableau, quantity):
            return at
    return None


def add_row(tableau, row):
    """Add a row and return True if some point fits; otherwise its slack stays basic, below 0."""
    numbers, relation, bound = row
    place = len(tableau.body)
    quantity = len(tableau.free) + place
    exact = relation == "exactly"
    line = _slack_line(tableau, numbers, bound)
    turned = relation == "at least" or (exact and (line[1][-2], line[1][-1]) > (0, 0))
    if turned:
        line = _turned(line)
    if not exact:
        line = _loosened(line, quantity)
    tableau.basis.append(quantity)
    tableau.body.append(line)
    tableau.turns.append(-1 if turned else 1)
    tableau.exact.append(exact)
    return _settled(tableau, place, exact)


def _settled(tableau, place, exact):
    """Make the slack of a new row 0 if the row is exact, otherwise at least 0; True if it can be."""
    numbers = tableau.body[place][1]
    amount = (numbers[-2], numbers[-1])
    if amount < (0, 0):
        return _raised(tableau, place)[0] == "raised"
    if exact:
        # Without such a column the row says nothing new: its slack is 0 wherever the others fit.
        column = _open_column(tableau, numbers)
        if column is not None:
            _exchange(tableau, place, column)
    return True


def _point(tableau):
    found = [(0, 1)] * len(tableau.free)
    for quantity, (den, numbers) in zip(tableau.basis, tableau.body):
        if _is_variable(tableau, quantity):
            found[quantity] = make(numbers[-2], den)
    return found


def _ray(tableau, column, direction):
    found = [(0, 1)] * len(tableau.free)
    for quantity, (den, numbers) in zip(tableau.basis, tableau.body):
        if _is_variable(tableau, quantity):
            found[quantity] = make(direction * numbers[column], den)
    quantity = tableau.columns[column]
    if _is_variable(tableau, quantity):
        found[quantity] = (direction, 1)
    return found


def _factors(tableau, line, rows):
    """Return a factor for each row: how much of the row is in the line, with the opposite sign."""
    den, numbers = line
    found = [(0, 1)] * rows
    for at, quantity in enumerate(tableau.columns):
        if not _is_variable(tableau, quantity):
            row = quantity - len(tableau.free)
            found[row] = make(-tableau.turns[row] * numbers[at], den)
    return found


def _refused(tableau, rows):
    """Return the certificate that no point fits, when the last row was added and none fits it."""
    last = len(tableau.turns) - 1
    found = _factors(tableau, tableau.body[last], rows)
    found[last] = (tableau.turns[last], 1)
    return "none", [], found, []


def _finished(tableau):
    """Raise the goal, when all rows were added, and return the certificate."""
    word, column, direction = _raised(tableau, None)
    if word == "endless":
        return "endless", _point(tableau), [], _ray(tableau, column, direction)
    return "best", _point(tableau), _factors(tableau, tableau.goal, len(tableau.turns)), []


def searched(tableau, rows):
    """Add the rows, behind those that the tableau has, and return the certificate."""
    count = len(tableau.turns) + len(rows)
    for row in rows:
        if not add_row(tableau, row):
            return _refused(tableau, count)
    return _finished(tableau)


def solve_program(program):
    """Return an accepted certificate of the program."""
    if program.variables > _MOST_VARIABLES:
        raise TooLarge("variables")
    if len(program.rows) > _MOST_ROWS:
        raise TooLarge("rows")
    return searched(begun(program), program.rows)
