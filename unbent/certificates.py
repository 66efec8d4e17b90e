"""Certificates: short proofs that a point is best, that none fits, or that there is no bound.

The checks take the rows apart from the program, so that a program with fixed variables, which may
have more rows than a Program can hold, is checked in the same way.
"""

from unbent.programs import agrees, fits_rows, keeps_signs, value_of
from unbent.ratios import add, compare, dot, multiply, sign


def bound_of_rows(rows, factors):
    """Return the sum of the products of the factors with the bounds of the rows."""
    return dot(factors, [row[2] for row in rows])


def bound_of(program, factors):
    """Return the sum of the products of the factors with the bounds of the program."""
    return bound_of_rows(program.rows, factors)


def _has_correct_signs(rows, factors):
    for (_, relation, _), factor in zip(rows, factors):
        if relation == "at least" and sign(factor) > 0:
            return False
        if relation == "at most" and sign(factor) < 0:
            return False
    return True


def _sums(variables, rows, factors):
    """Return the sum of each column."""
    found = [(0, 1)] * variables
    for (numbers, _, _), factor in zip(rows, factors):
        if sign(factor) != 0:
            found = [_add_product(item, factor, number) for item, number in zip(found, numbers)]
    return found


def _add_product(item, factor, number):
    if number[0] == 0:
        return item
    return add(item, multiply(factor, number))


def _covers(program, rows, factors, goal):
    """Return True if the factors prove their bound for a goal: right in number, signs and sums."""
    if len(factors) != len(rows) or not _has_correct_signs(rows, factors):
        return False
    sums = _sums(program.variables, rows, factors)
    for free, item, number in zip(program.free, sums, goal):
        order = compare(item, number)
        if order < 0 or (free and order != 0):
            return False
    return True


def _accepts_best(program, rows, x, y):
    if not fits_rows(program, rows, x) or not _covers(program, rows, y, program.goal):
        return False
    return bound_of_rows(rows, y) == value_of(program, x)


def _accepts_none(program, rows, y):
    zeros = [(0, 1)] * program.variables
    return _covers(program, rows, y, zeros) and sign(bound_of_rows(rows, y)) < 0


def _accepts_endless(program, rows, x, ray):
    if not fits_rows(program, rows, x) or not keeps_signs(program, ray):
        return False
    for numbers, relation, _ in rows:
        if not agrees(relation, sign(dot(numbers, ray))):
            return False
    return sign(dot(program.goal, ray)) > 0


def accepts_rows(program, rows, certificate):
    """Return True if the certificate is accepted for the program with these rows for its own."""
    kind, x, y, ray = certificate
    if kind == "best":
        return _accepts_best(program, rows, x, y)
    if kind == "none":
        return _accepts_none(program, rows, y)
    if kind == "endless":
        return _accepts_endless(program, rows, x, ray)
    return False


def accepts_certificate(program, certificate):
    """Return True if the certificate is accepted for the program."""
    return accepts_rows(program, program.rows, certificate)
