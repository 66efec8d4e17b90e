"""Points 18 to 23: programs with whole variables, and their trees."""

import copy
import itertools
import unittest
from fractions import Fraction

from tests.kit import ONE, ZERO, judged_certificate, plain, program, r, rs, seeded, some_program, some_ratio, state
from unbent.errors import TooLarge
from unbent.programs import Program, fits, value_of
from unbent.simplex import solve_program
from unbent.whole import accepts_tree, fixed, is_whole, relaxed, solve_whole

NOTHING = ("none", [], [], [])


def judged_tree(item, whole, tree):
    """Whether a tree is accepted, judged from the document by a walk of its own."""
    kind, x, ray, nodes = tree
    if kind in ("best", "endless"):
        if not fits(item, x) or any(x[at] not in (ZERO, ONE) for at in whole):
            return False
    if kind == "endless":
        return judged_certificate(item, ("endless", x, [], ray)) and all(ray[at] == ZERO for at in whole)
    if kind not in ("best", "none"):
        return False
    reached = [0]

    def walk(at, here, way):
        reached[0] += 1
        if reached[0] > 800 or not 0 <= at < len(nodes):
            return False
        variable, zero, one, certificate = nodes[at]
        if variable == -1:
            if not judged_certificate(here, certificate):
                return False
            if certificate[0] == "none":
                return True
            bound = sum(plain(f) * plain(row[2]) for f, row in zip(certificate[2], here.rows))
            return kind == "best" and certificate[0] == "best" and bound <= plain(value_of(item, x))
        if variable not in whole or variable in way:
            return False
        cases = zip((zero, one), (0, 1))
        return all(walk(case, fixed(here, variable, bit), [*way, variable]) for case, bit in cases)

    return walk(0, relaxed(item, whole), [])


def best_by_trying(item, whole):
    """The kind and the value of the best whole point, from all points of 0 and 1 at the whole variables."""
    kind, best = "none", None
    for bits in itertools.product((0, 1), repeat=len(whole)):
        here = item
        for index, bit in zip(whole, bits):
            here = fixed(here, index, bit)
        certificate = solve_program(here)
        if certificate[0] == "endless":
            kind = "endless"
        if certificate[0] == "best" and kind != "endless":
            amount = plain(value_of(item, certificate[1]))
            kind, best = "best", amount if best is None else max(best, amount)
    return kind, best


def some_whole_program(source, most=5):
    item = some_program(source, most)
    able = [at for at in range(item.variables) if not item.free[at]]
    return item, sorted(source.sample(able, source.randint(0, len(able))))


KNAPSACK = program([3, 2], [([2, 2], "at most", 3)])


class Examples(unittest.TestCase):
    def test_of_the_interface(self):
        rows = [([(2, 1), (2, 1)], "at most", (3, 1))]
        item = Program(2, free=[False, False], goal=[(3, 1), (2, 1)], rows=rows)
        tree = solve_whole(item, [0, 1])
        found = tree[0], tree[1], accepts_tree(item, [0, 1], tree)
        self.assertEqual(found, ("best", [(1, 1), (0, 1)], True))


class Parts(unittest.TestCase):
    def test_is_whole(self):
        point = [ONE, (1, 2), ZERO, r(2), r(-1)]
        for at, expected in enumerate([True, False, True, False, False]):
            self.assertIs(is_whole([at], point), expected)
        self.assertIs(is_whole([], point), True)
        self.assertIs(is_whole([0, 2], point), True)
        self.assertIs(is_whole([0, 1, 2], point), False)
        self.assertIs(is_whole([0, 5], point), False)

    def test_relaxed_row_by_row(self):
        item = program([1, 2, 3], [([1, 1, 1], "at least", 2), ([0, 1, 0], "exactly", 1)], free=(1,))
        before = state(item)
        found = relaxed(item, [0, 2])
        self.assertEqual(state(item), before)
        more = [(rs(1, 0, 0), "at most", ONE), (rs(0, 0, 1), "at most", ONE)]
        self.assertEqual(found.rows, item.rows + more)
        self.assertEqual((found.variables, found.free, found.goal), (3, [False, True, False], rs(1, 2, 3)))
        self.assertEqual(relaxed(item, []).rows, item.rows)

    def test_fixed_row_by_row(self):
        item = program([1, 2], [([1, 1], "at least", 2)])
        before = state(item)
        found = fixed(fixed(item, 1, 0), 0, 1)
        self.assertEqual(state(item), before)
        self.assertEqual(found.rows, item.rows + [(rs(0, 1), "exactly", ZERO), (rs(1, 0), "exactly", ONE)])

    def test_too_many_rows(self):
        item = program([1] * 4, [([1] * 4, "at most", 1)] * 398)
        self.assertEqual(len(relaxed(item, [0, 3]).rows), 400)
        self.assertEqual(len(fixed(fixed(item, 0, 0), 1, 1).rows), 400)
        with self.assertRaises(TooLarge):
            relaxed(item, [0, 1, 3])
        with self.assertRaises(TooLarge):
            fixed(relaxed(item, [0, 3]), 1, 1)


# Two nodes: variable 0 is 0, with the bound 2 of variable 1, or 1, with the bound 3 of 3 x + 2 y.
LEAF_ZERO = ("best", rs(0, 1), rs(0, 0, 2, 3), [])
LEAF_ONE = ("best", [ONE, (1, 2)], rs(1, 0, 0, 1), [])
DEEP_ZERO = ("best", rs(1, 0), rs(0, 0, 0, 3, 2), [])
DEEP_ONE = ("none", [], rs(1, 0, 0, -2, -2), [])
BEST = ("best", rs(1, 0), [], [
    (0, 1, 2, NOTHING), (-1, -1, -1, LEAF_ZERO), (1, 3, 4, NOTHING), (-1, 7, 7, DEEP_ZERO), (-1, 0, 0, DEEP_ONE),
])


def with_node(tree, at, node):
    nodes = list(tree[3])
    nodes[at] = node
    return (*tree[:3], nodes)


class BestTrees(unittest.TestCase):
    def check(self, tree, expected, item=KNAPSACK, whole=(0, 1)):
        kept = copy.deepcopy(tree)
        self.assertIs(accepts_tree(item, list(whole), tree), expected)
        self.assertIs(judged_tree(item, list(whole), tree), expected)
        self.assertEqual(tree, kept)

    def test_accepted(self):
        self.check(BEST, True)

    def test_ray_does_not_matter(self):
        for ray in (rs(1), rs(1, 1), rs(0, 0, 0)):
            self.check((BEST[0], BEST[1], ray, BEST[3]), True)

    def test_nodes_that_are_not_reached(self):
        self.check((*BEST[:3], BEST[3] + [(9, 9, 9, NOTHING)]), True)

    def test_point(self):
        for x in ([], rs(1), rs(1, 0, 0), rs(0, 1), rs(0, 0), [ONE, (1, 2)], rs(1, 1), rs(2, 0)):
            self.check(("best", x, [], BEST[3]), False)

    def test_kind(self):
        for kind in ("none", "endless", "", "Best"):
            self.check((kind, *BEST[1:]), False)

    def test_split(self):
        for variable in (0, 2, -2, -3, 5):
            self.check(with_node(BEST, 2, (variable, 3, 4, NOTHING)), False)
        self.check(with_node(BEST, 0, (1, 1, 2, NOTHING)), False)
        self.check(with_node(BEST, 0, (-1, 1, 2, NOTHING)), False)
        self.check(BEST, False, whole=(0,))

    def test_cases(self):
        for zero, one in [(2, 1), (1, 1), (2, 2), (0, 2), (1, 0), (1, 5), (-1, 2), (1, -3), (99, 2)]:
            self.check(with_node(BEST, 0, (0, zero, one, NOTHING)), False)
        self.check(with_node(BEST, 2, (1, 4, 3, NOTHING)), False)

    def test_certificates(self):
        for certificate in [
            ("best", rs(0, 1), rs(0, 0, 2, 2), []), ("best", rs(0, 1), rs(0, 0, 2), []), ("best", rs(0, 0), LEAF_ZERO[2], []),
            ("best", rs(0, 1), rs(0, 0, 2, 3, 0), []), ("none", rs(0, 1), LEAF_ZERO[2], []), NOTHING,
            ("endless", rs(0, 1), [], rs(0, 0)),
        ]:
            self.check(with_node(BEST, 1, (-1, -1, -1, certificate)), False)
        # This one is right for its program, but its bound is above the value of the point.
        loose = with_node(BEST, 2, (-1, -1, -1, LEAF_ONE))
        self.assertTrue(judged_certificate(fixed(relaxed(KNAPSACK, [0, 1]), 0, 1), LEAF_ONE))
        self.check(loose, False)
        self.check(with_node(BEST, 4, (-1, 0, 0, DEEP_ZERO)), False)
        self.check(with_node(BEST, 2, (1, 3, 3, NOTHING)), False)

    def test_certificates_of_splits_do_not_matter(self):
        for certificate in [LEAF_ZERO, ("", [], [], []), ("none", rs(1), rs(1), rs(1))]:
            self.check(with_node(BEST, 0, (0, 1, 2, certificate)), True)

    def test_endless_leaves_do_not_count(self):
        item = program([1, 0], [])
        for x, y in [(rs(0, 0), rs(0)), (rs(5, 0), []), (rs(5, 0), rs(1))]:
            leaf = (-1, 0, 0, ("endless", rs(0, 0), y, rs(1, 0)))
            self.check(("best", x, [], [leaf]), False, item, (1,))
            self.check(("none", x, [], [leaf]), False, item, (1,))

    def test_numbers_below_zero_are_no_nodes(self):
        item = program([1], [([1], "at most", 1)])
        leaf = (-1, 0, 0, ("best", rs(1), rs(1, 0, 0), []))
        self.check(("best", rs(1), [], [(0, 1, 1, NOTHING), leaf]), False, item, (0,))
        zero = (-1, 0, 0, ("best", rs(0), rs(0, 0, 1), []))
        one = (-1, 0, 0, ("best", rs(1), rs(0, 0, 1), []))
        self.check(("best", rs(1), [], [(0, 1, 2, NOTHING), zero, one]), True, item, (0,))
        self.check(("best", rs(1), [], [(0, 1, -1, NOTHING), zero, one]), False, item, (0,))

    def test_missing_nodes(self):
        for many in range(5):
            self.check((*BEST[:3], BEST[3][:many]), False)
        self.check(("best", rs(1, 0), [], []), False)

    def test_one_leaf(self):
        item = program([1], [([1], "at most", 1)])
        self.check(("best", rs(1), [], [(-1, 0, 0, ("best", rs(1), rs(1, 0), []))]), True, item, (0,))
        self.check(("best", rs(1), [], [(-1, 0, 0, ("best", rs(1), rs(0, 1), []))]), True, item, (0,))
        self.check(("best", rs(0), [], [(-1, 0, 0, ("best", rs(1), rs(1, 0), []))]), False, item, (0,))
        self.check(("best", rs(1), [], [(-1, 0, 0, ("best", rs(1), rs(1), []))]), True, item, ())

    def test_bound_below_the_value(self):
        # The leaf's own point may be worse than the point of the tree.
        item = program([1, 1], [([1, 0], "at most", 1), ([0, 1], "at most", 1), ([1, 1], "exactly", 1)])
        nodes = [(0, 1, 1, NOTHING), (-1, 0, 0, ("best", rs(0, 1), rs(0, 0, 1, 0, 0, 0), []))]
        self.check(("best", rs(1, 0), [], nodes), False, item)
        nodes = [(0, 1, 2, NOTHING), nodes[1], (-1, 0, 0, ("best", rs(1, 0), rs(0, 0, 1, 0, 0, 0), []))]
        self.check(("best", rs(1, 0), [], nodes), True, item)


class NoTrees(unittest.TestCase):
    item = program([1, 1], [([1, 1], "at least", 2), ([2, 2], "at most", 3)])

    def test_accepted(self):
        leaf = (-1, 0, 0, ("none", [], rs(-2, 1, 0, 0), []))
        tree = ("none", [], [], [leaf])
        for x, ray in [([], []), (rs(1, 1), rs(1)), (rs(5), [])]:
            self.assertIs(accepts_tree(self.item, [0, 1], ("none", x, ray, [leaf])), True)
        self.assertIs(judged_tree(self.item, [0, 1], tree), True)
        self.assertIs(accepts_tree(self.item, [0], tree), False)
        self.assertIs(accepts_tree(self.item, [0, 1], ("best", rs(1, 1), [], [leaf])), False)
        self.assertIs(accepts_tree(self.item, [0, 1], ("none", [], [], [])), False)

    def test_best_leaves_do_not_count(self):
        tree = ("none", [], [], [(-1, 0, 0, ("best", rs(1, 0), rs(0, 0, 3, 2), []))])
        self.assertIs(accepts_tree(KNAPSACK, [0, 1], tree), False)
        self.assertIs(accepts_tree(KNAPSACK, [0, 1], ("none", *BEST[1:])), False)

    def test_split(self):
        # x + 2 y is exactly 1/2 for no bits, but for halves.
        item = program([0, 0], [([2, 4], "exactly", 1)])
        tree = solve_whole(item, [0, 1])
        self.assertEqual(tree[:3], ("none", [], []))
        self.assertIs(accepts_tree(item, [0, 1], tree), True)
        self.assertIs(judged_tree(item, [0, 1], tree), True)
        self.assertGreater(len(tree[3]), 1)


class EndlessTrees(unittest.TestCase):
    item = program([1, 1, 1], [([1, 0, 2], "exactly", 3), ([0, 1, -1], "at least", 0)])

    def check(self, x, ray, expected, nodes=(), whole=(2,)):
        tree = ("endless", x, ray, list(nodes))
        self.assertIs(accepts_tree(self.item, list(whole), tree), expected)
        self.assertIs(judged_tree(self.item, list(whole), tree), expected)

    def test_accepted(self):
        self.check(rs(3, 0, 0), rs(0, 1, 0), True)
        self.check(rs(1, 1, 1), rs(0, 5, 0), True)
        self.check(rs(3, 0, 0), rs(0, 1, 0), True, whole=())

    def test_nodes_do_not_matter(self):
        for nodes in [[(0, 0, 0, NOTHING)], [(-1, 0, 0, NOTHING)], [(9, 9, 9, NOTHING)] * 3]:
            self.check(rs(3, 0, 0), rs(0, 1, 0), True, nodes)

    def test_point(self):
        for x in (rs(2, 1, 1), rs(3, 0), [], rs(3, -1, 0), [r(2), ONE, (1, 2)], rs(3, 0, 0, 0), rs(-1, 2, 2)):
            self.check(x, rs(0, 1, 0), False)

    def test_ray(self):
        for ray in (rs(0, -1, 0), rs(0, 0, 0), rs(1, 1, 0), rs(0, 1), [], rs(0, 1, 0, 0), rs(0, 1, 1)):
            self.check(rs(3, 0, 0), ray, False)
        self.check(rs(3, 0, 0), rs(0, 1, 0), False, whole=(1, 2))

    def test_ray_at_a_whole_variable(self):
        item = program([1, 0], [])
        self.assertIs(accepts_tree(item, [0], ("endless", rs(0, 0), rs(1, 0), [])), False)
        self.assertIs(accepts_tree(item, [1], ("endless", rs(0, 0), rs(1, 0), [])), True)
        self.assertIs(accepts_tree(item, [1], ("endless", [ZERO, (1, 2)], rs(1, 0), [])), False)


def counted_tree(splits, whole):
    """A tree that no point fits, with so many splits on all ways together, from few nodes.

    The row 0 = 1 makes every leaf right; leaves of one depth are one node.
    """
    nodes = {}
    order = []

    def node(depth, left):
        key = (depth, left)
        if key not in nodes:
            nodes[key] = len(order)
            order.append(None)
            if left == 0:
                y = [r(-1)] + [ZERO] * (whole + depth)
                order[nodes[key]] = (-1, 0, 0, ("none", [], y, []))
            else:
                half = (left - 1) // 2
                zero, one = node(depth + 1, half), node(depth + 1, left - 1 - half)
                order[nodes[key]] = (depth, zero, one, NOTHING)
        return nodes[key]

    node(0, splits)
    return "none", [], [], order


class Reached(unittest.TestCase):
    def test_800_nodes(self):
        item = program([0] * 12, [([0] * 12, "exactly", 1)])
        whole = list(range(12))
        for splits in (0, 1, 5, 399):
            tree = counted_tree(splits, 12)
            self.assertIs(accepts_tree(item, whole, tree), True)
            self.assertIs(judged_tree(item, whole, tree), True)
            self.assertLess(len(tree[3]), 100)
        for splits in (400, 401, 1000):
            self.assertIs(accepts_tree(item, whole, counted_tree(splits, 12)), False)

    def test_one_node_again_and_again(self):
        # Both cases lead to the same node, in each depth: 2 ** 11 - 1 nodes are reached with ten splits.
        item = program([0] * 10, [([0] * 10, "exactly", 1)])
        for depth in range(11):
            nodes = [(at, at + 1, at + 1, NOTHING) for at in range(depth)]
            nodes.append((-1, 0, 0, ("none", [], [r(-1)] + [ZERO] * (10 + depth), [])))
            self.assertIs(accepts_tree(item, list(range(10)), ("none", [], [], nodes)), depth <= 8)

    def test_a_variable_that_was_split_on_the_way(self):
        item = program([0, 0], [([0, 0], "exactly", 1)])
        leaves = [(-1, 0, 0, ("none", [], [r(-1)] + [ZERO] * many, [])) for many in (3, 4)]
        for variable, expected in [(1, True), (0, False)]:
            nodes = [(0, 1, 2, NOTHING), leaves[0], (variable, 3, 3, NOTHING), leaves[1]]
            self.assertIs(accepts_tree(item, [0, 1], ("none", [], [], nodes)), expected)
            self.assertIs(judged_tree(item, [0, 1], ("none", [], [], nodes)), expected)

    def test_circles(self):
        item = program([0, 0], [([0, 0], "exactly", 1)])
        for nodes in [[(0, 0, 0, NOTHING)], [(0, 1, 1, NOTHING), (1, 0, 0, NOTHING)]]:
            self.assertIs(accepts_tree(item, [0, 1], ("none", [], [], nodes)), False)


class Solving(unittest.TestCase):
    def solved(self, item, whole):
        before, kept = state(item), list(whole)
        tree = solve_whole(item, whole)
        self.assertEqual((state(item), whole), (before, kept))
        self.assertEqual(solve_whole(item, whole), tree)
        self.assertIs(accepts_tree(item, whole, tree), True)
        self.assertIs(judged_tree(item, whole, tree), True)
        return tree

    def test_against_all_points(self):
        source = seeded(41)
        kinds = []
        for _ in range(300):
            item, whole = some_whole_program(source)
            tree = self.solved(item, whole)
            kind, amount = best_by_trying(item, whole)
            self.assertEqual(tree[0], kind)
            if kind == "best":
                self.assertEqual(plain(value_of(item, tree[1])), amount)
            kinds.append((kind, len(tree[3]) > 1))
        for kind in ("best", "none", "endless"):
            self.assertGreater(sum(found[0] == kind for found in kinds), 20)
        self.assertGreater(kinds.count(("best", True)), 3)

    def test_knapsacks(self):
        source = seeded(42)
        for many in (3, 6, 8):
            for _ in range(10):
                rows = [([source.randint(1, 30) for _ in range(many)], "at most", source.randint(20, 60))
                        for _ in range(2)]
                item = program([source.randint(1, 30) for _ in range(many)], rows)
                tree = self.solved(item, list(range(many)))
                points = [rs(*bits) for bits in itertools.product((0, 1), repeat=many)]
                best = max(plain(value_of(item, point)) for point in points if fits(item, point))
                self.assertEqual(plain(value_of(item, tree[1])), best)

    def test_eight_variables_that_no_bits_fit(self):
        item = program([0] * 8, [([2] * 8, "exactly", 7)])
        tree = self.solved(item, list(range(8)))
        self.assertEqual(tree[:3], ("none", [], []))

    def all_must_split(self, many):
        """A program that no bits fit, and whose every tree splits all whole variables on all ways.

        Beside each whole variable stands one that is 0 if the first one is 0 or 1; their sum is above 0.
        """
        rows = []
        for at in range(many):
            for factor, bound in ((-1, 0), (1, 1)):
                numbers = [0] * (2 * many)
                numbers[at], numbers[many + at] = factor, 1
                rows.append((numbers, "at most", bound))
        rows.append(([0] * many + [1] * many, "at least", Fraction(1, 100)))
        return program([0] * (2 * many), rows)

    def test_the_largest_tree_of_eight_variables(self):
        tree = self.solved(self.all_must_split(8), list(range(8)))
        self.assertEqual(tree[:3], ("none", [], []))
        self.assertEqual(len(tree[3]), 511)

    def test_a_tree_that_is_too_large(self):
        # Nine variables would need 512 leaves.
        with self.assertRaises(TooLarge):
            solve_whole(self.all_must_split(9), list(range(9)))

    def test_no_whole_variables(self):
        self.assertEqual(self.solved(KNAPSACK, [])[0], "best")
        self.assertEqual(self.solved(program([1], []), [])[0], "endless")
        self.assertEqual(self.solved(program([1], [([1], "at most", -1)]), [])[0], "none")
        self.assertEqual(self.solved(program([], []), [])[:2], ("best", []))

    def test_no_bound(self):
        # The free variable grows without end, but the whole ones must be found first.
        rows = [([2, 2, 0], "exactly", 2), ([1, -1, 0], "at least", Fraction(1, 3)), ([0, 0, 1], "at least", 0)]
        tree = self.solved(program([0, 0, 1], rows), [0, 1])
        self.assertEqual((tree[0], tree[1][:2]), ("endless", rs(1, 0)))
        tree = self.solved(program([0, 0, 1], [([2, 2, 0], "exactly", 1)]), [0, 1])
        self.assertEqual(tree[0], "none")

    def test_limits(self):
        def item(variables, rows):
            return program([1] * variables, [([1] * variables, "at most", 5)] * rows)
        for variables, whole, rows in [(72, 24, 152), (72, 0, 200), (24, 24, 1), (72, 8, 184)]:
            self.assertEqual(self.solved(item(variables, rows), list(range(whole)))[0], "best")
        for variables, whole, rows in [
            (73, 0, 0), (72, 25, 0), (72, 24, 153), (72, 0, 201), (72, 8, 185), (2, 1, 199), (73, 25, 300),
        ]:
            with self.assertRaises(TooLarge):
                solve_whole(item(variables, rows), list(range(whole)))

    def test_many_whole_variables(self):
        source = seeded(43)
        groups = [range(at, at + 4) for at in range(0, 24, 4)]
        rows = [([1 if at in group else 0 for at in range(24)], "exactly", 1) for group in groups]
        for _ in range(6):
            rows.append(([source.randint(0, 9) for _ in range(24)], "at most", source.randint(20, 30)))
        item = program([source.randint(0, 20) for _ in range(24)], rows)
        tree = self.solved(item, list(range(24)))
        best = None
        for picks in itertools.product(*groups):
            point = [ONE if at in picks else ZERO for at in range(24)]
            if fits(item, point):
                amount = plain(value_of(item, point))
                best = amount if best is None else max(best, amount)
        self.assertEqual(plain(value_of(item, tree[1])), best)

    def test_a_tree_that_may_become_too_large(self):
        # Many equal items: no tree by halves is small. Either answer is allowed.
        item = program([2] * 24, [([2] * 24, "at most", 25)])
        try:
            self.assertEqual(self.solved(item, list(range(24)))[0], "best")
        except TooLarge:
            pass

    def test_what_is_returned_is_new(self):
        first = solve_whole(KNAPSACK, [0, 1])
        kept = copy.deepcopy(first)
        first[1][0] = r(9)
        first[3].clear()
        self.assertEqual(solve_whole(KNAPSACK, [0, 1]), kept)

    def test_large_random_programs(self):
        source = seeded(44)
        for _ in range(3):
            rows = [([some_ratio(source) for _ in range(30)], "at most", r(source.randint(1, 9))) for _ in range(30)]
            item = Program(30, free=[at >= 24 for at in range(30)],
                           goal=[some_ratio(source) for _ in range(30)], rows=rows)
            try:
                self.solved(item, list(range(24)))
            except TooLarge:
                pass


if __name__ == "__main__":
    unittest.main()
