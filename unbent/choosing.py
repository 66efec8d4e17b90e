"""Choices in order, the chances of the random order, and matrices as lotteries of assignments."""

from itertools import permutations

from unbent.errors import InvalidMatrix, InvalidWishes, TooLarge
from unbent.matching import MOST_MEMBERS, check_size, check_wishes
from unbent.ratios import least_index, make, sign, subtract, total

_MOST_IN_RANDOM_ORDER = 6
_MOST_ROWS = 6


def _check_wishes(wishes, things, most):
    check_size([len(wishes)], most)
    check_size([things], MOST_MEMBERS)
    check_wishes(wishes, things)


def _chosen(order, wishes):
    """Return what each agent has, if they choose in this order."""
    found = [None] * len(wishes)
    for agent in order:
        remaining = [thing for thing in wishes[agent] if thing not in found]
        if remaining:
            found[agent] = remaining[0]
    return found


def choose(order, wishes, things):
    """Return the thing of each agent, or None, if they choose in this order."""
    _check_wishes(wishes, things, MOST_MEMBERS)
    if sorted(order) != list(range(len(wishes))):
        raise InvalidWishes("list")
    return _chosen(order, wishes)


def random_choices(wishes, things):
    """Return for each agent its chances of the things, if each order is equally likely."""
    _check_wishes(wishes, things, _MOST_IN_RANDOM_ORDER)
    counts = [[0] * things for _ in wishes]
    orders = 0
    for order in permutations(range(len(wishes))):
        orders += 1
        for agent, thing in enumerate(_chosen(order, wishes)):
            if thing is not None:
                counts[agent][thing] += 1
    return [[make(count, orders) for count in line] for line in counts]


def _is_lottery(line, many):
    """Return True if the list holds so many chances, which sum to 1."""
    return len(line) == many and all(sign(chance) >= 0 for chance in line) and total(line) == (1, 1)


def _is_doubly_stochastic(matrix):
    many = len(matrix)
    if many == 0 or not all(_is_lottery(row, many) for row in matrix):
        return False
    return all(_is_lottery([row[column] for row in matrix], many) for column in range(many))


def _first_assignment(matrix):
    """Return the first assignment whose entries in the matrix are all above 0, or None."""
    for columns in permutations(range(len(matrix))):
        if all(sign(row[column]) > 0 for row, column in zip(matrix, columns)):
            return list(columns)
    return None


def _taken_from(matrix, assignment, weight):
    """Return the matrix less the weight at each entry of the assignment."""
    found = []
    for row, taken in zip(matrix, assignment):
        found.append([subtract(entry, weight) if column == taken else entry for column, entry in enumerate(row)])
    return found


def assignments(matrix):
    """Return the pairs (assignment, weight) that make up the matrix, in the order in which they are found."""
    if len(matrix) > _MOST_ROWS:
        raise TooLarge("size")
    if not _is_doubly_stochastic(matrix):
        raise InvalidMatrix()
    found = []
    rest = matrix
    assignment = _first_assignment(rest)
    while assignment is not None:
        entries = [row[column] for row, column in zip(rest, assignment)]
        weight = entries[least_index(entries)]
        found.append((assignment, weight))
        rest = _taken_from(rest, assignment, weight)
        assignment = _first_assignment(rest)
    return found
