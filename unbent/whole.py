"""Programs some of whose variables must be 0 or 1, and trees that prove what is best for them."""

from unbent.certificates import accepts_certificate, accepts_rows, bound_of_rows
from unbent.errors import TooLarge
from unbent.programs import fits, value_of, with_rows
from unbent.ratios import compare, make, subtract
from unbent.simplex import begun, copied, searched

_MOST_VARIABLES = 72
_MOST_WHOLE = 24
_MOST_ROWS = 200
_MOST_LEAVES = 400
_MOST_REACHED = 800


def is_whole(whole, point):
    """Return True if the items of the point at the indexes are 0 or 1."""
    return all(index < len(point) and point[index] in ((0, 1), (1, 1)) for index in whole)


def _row_of(program, index, relation, bit):
    numbers = [(0, 1)] * program.variables
    numbers[index] = (1, 1)
    return numbers, relation, (bit, 1)


def _limits(program, whole):
    return [_row_of(program, index, "at most", 1) for index in whole]


def relaxed(program, whole):
    """Return the program in which the whole variables must be at most 1 instead."""
    return with_rows(program, _limits(program, whole))


def fixed(program, index, bit):
    """Return the program in which the variable must be exactly the bit."""
    return with_rows(program, [_row_of(program, index, "exactly", bit)])


def _accepts_leaf(program, rows, certificate, most):
    """Return True if the certificate proves that no point that fits the rows has more than most."""
    if not accepts_rows(program, rows, certificate):
        return False
    if certificate[0] == "none":
        return True
    if certificate[0] != "best" or most is None:
        return False
    return compare(bound_of_rows(rows, certificate[2]), most) <= 0


def _accepts_walk(program, whole, nodes, most):
    """Return True if the nodes prove that no whole point has more than most (None: that none fits)."""
    rows = program.rows + _limits(program, whole)
    due = [(0, [])]
    reached = 0
    while due:
        at, way = due.pop()
        reached += 1
        if reached > _MOST_REACHED or not 0 <= at < len(nodes):
            return False
        variable, zero, one, certificate = nodes[at]
        if variable == -1:
            steps = [_row_of(program, index, "exactly", bit) for index, bit in way]
            if not _accepts_leaf(program, rows + steps, certificate, most):
                return False
        elif variable in whole and variable not in [index for index, _ in way]:
            due.append((one, way + [(variable, 1)]))
            due.append((zero, way + [(variable, 0)]))
        else:
            return False
    return True


def _accepts_endless(program, whole, x, ray):
    if not accepts_certificate(program, ("endless", x, [], ray)):
        return False
    return is_whole(whole, x) and all(ray[index] == (0, 1) for index in whole)


def accepts_tree(program, whole, tree):
    """Return True if the tree is accepted for the program and its whole variables."""
    kind, x, ray, nodes = tree
    if kind == "best":
        if not fits(program, x) or not is_whole(whole, x):
            return False
        return _accepts_walk(program, whole, nodes, value_of(program, x))
    if kind == "none":
        return _accepts_walk(program, whole, nodes, None)
    return kind == "endless" and _accepts_endless(program, whole, x, ray)


class Search:
    """The tree as far as it is known, and the best whole point that was found."""

    def __init__(self, program, whole):
        self.program = program
        self.whole = whole
        self.nodes = []
        # The leaves that may have to be split, as tuples (place, x, most, tableau): no whole point
        # below has more than most, which is None if there is no bound.
        self.due = []
        self.best = None
        self.most = None
        self.ray = None


def _add_leaf(search, tableau, rows):
    """Search below the rows and add the leaf that this gives."""
    certificate = searched(tableau, rows)
    kind, x, _, ray = certificate
    place = len(search.nodes)
    search.nodes.append((-1, -1, -1, certificate))
    if kind == "none":
        return
    most = None if kind == "endless" else value_of(search.program, x)
    if not is_whole(search.whole, x):
        search.due.append((place, x, most, tableau))
    elif _is_more(most, search):
        search.best = list(x)
        search.most = most
        search.ray = list(ray)


def _promises_more(first, second):
    """Return True if the first bound is above the second one; None is no bound at all."""
    if first is None or second is None:
        return first is None and second is not None
    return compare(first, second) > 0


def _is_more(most, search):
    return search.best is None or _promises_more(most, search.most)


def _next_due(search):
    """Return the index in the due leaves of the most promising one, the latest of equal ones."""
    best = 0
    for at, leaf in enumerate(search.due):
        if not _promises_more(search.due[best][2], leaf[2]):
            best = at
    return best


def _most_open(whole, x):
    """Return the whole variable whose item is nearest to 1/2."""
    best = None
    least = None
    for index in whole:
        gap = subtract(x[index], (1, 2))
        amount = make(abs(gap[0]), gap[1])
        if best is None or compare(amount, least) < 0:
            best, least = index, amount
    return best


def _split(search, leaf):
    """Replace the leaf by a split, and add the leaves of its two cases."""
    place, x, _, tableau = leaf
    index = _most_open(search.whole, x)
    zero = len(search.nodes)
    search.nodes[place] = (index, zero, zero + 1, ("none", [], [], []))
    for bit in (0, 1):
        _add_leaf(search, copied(tableau), [_row_of(search.program, index, "exactly", bit)])


def _check_size(program, whole):
    if program.variables > _MOST_VARIABLES:
        raise TooLarge("variables")
    if len(whole) > _MOST_WHOLE:
        raise TooLarge("whole")
    if len(program.rows) + 2 * len(whole) > _MOST_ROWS:
        raise TooLarge("rows")


def _grown(search):
    """Split leaves until none can have more than the best point, or there is no bound."""
    while search.due and not search.ray:
        leaf = search.due.pop(_next_due(search))
        if not _is_more(leaf[2], search):
            return
        # A tree with n splits has n + 1 leaves, and 2 n + 1 nodes.
        if len(search.nodes) + 1 >= 2 * _MOST_LEAVES:
            raise TooLarge("leaves")
        _split(search, leaf)


def solve_whole(program, whole):
    """Return an accepted tree of the program and its whole variables."""
    _check_size(program, whole)
    search = Search(program, list(whole))
    _add_leaf(search, begun(program), program.rows + _limits(program, whole))
    _grown(search)
    if search.best is None:
        return "none", [], [], search.nodes
    if search.ray:
        return "endless", search.best, search.ray, []
    return "best", search.best, [], search.nodes
