"""Points 15 and 16: certificates of linear programs."""

import unittest

from tests.kit import (
    ONE, ZERO, judged_certificate, plain, program, r, rs, seeded, some_program, some_ratio, state,
)
from unbent.certificates import accepts_certificate, bound_of
from unbent.programs import Program, value_of
from unbent.simplex import solve_program

EXAMPLE = program([1, 1], [([1, 2], "at most", 4)])

# Each sign, and a free variable: x + 2 y at most 4, x - z at least 1, y + z exactly 2.
MIXED = program(
    [1, 3, 0],
    [([1, 2, 0], "at most", 4), ([1, 0, -1], "at least", 1), ([0, 1, 1], "exactly", 2)],
    free=(2,),
)


class Examples(unittest.TestCase):
    def test_of_the_interface(self):
        self.assertIs(accepts_certificate(EXAMPLE, ("best", [(4, 1), (0, 1)], [(1, 1)], [])), True)
        self.assertIs(accepts_certificate(EXAMPLE, ("best", [(2, 1), (1, 1)], [(1, 1)], [])), False)


class Best(unittest.TestCase):
    def test_accepted(self):
        certificate = ("best", rs(2, 1, 1), rs(2, -1, -1), [])
        self.assertIs(judged_certificate(MIXED, certificate), True)
        self.assertIs(accepts_certificate(MIXED, certificate), True)

    def test_lists_that_are_not_used(self):
        for ray in ([], rs(1), rs(5, -6, 7), rs(1, 2, 3, 4)):
            certificate = ("best", rs(2, 1, 1), rs(2, -1, -1), ray)
            self.assertIs(accepts_certificate(MIXED, certificate), True)

    def test_one_change(self):
        x, y = rs(2, 1, 1), rs(2, -1, -1)
        for changed in [rs(2, 1), rs(2, 1, 1, 0), [], rs(3, 1, 1), rs(2, 0, 1), rs(2, 1, 2), rs(1, 1, 1)]:
            self.assertIs(accepts_certificate(MIXED, ("best", changed, y, [])), False)
        for changed in [y[:2], y + [ZERO], [], rs(3, -1, -1), rs(2, 0, -1), rs(2, 1, -1), rs(2, -1, 0), rs(2, -2, -2)]:
            self.assertIs(accepts_certificate(MIXED, ("best", x, changed, [])), False)

    def test_wrong_sign_of_a_factor(self):
        # The factor proves the bound, but it has the sign that the row does not allow.
        item = program([1], [([1], "at least", 0), ([1], "exactly", 0)], free=(0,))
        self.assertIs(accepts_certificate(item, ("best", rs(0), rs(1, 0), [])), False)
        self.assertIs(accepts_certificate(item, ("best", rs(0), rs(0, 1), [])), True)
        self.assertIs(accepts_certificate(item, ("best", rs(0), rs(-1, 2), [])), True)
        other = program([-1], [([1], "at most", 0), ([1], "exactly", 0)], free=(0,))
        self.assertIs(accepts_certificate(other, ("best", rs(0), rs(-1, 0), [])), False)
        self.assertIs(accepts_certificate(other, ("best", rs(0), rs(0, -1), [])), True)

    def test_sum_of_a_free_column(self):
        row = [([1], "at most", 0)]
        self.assertIs(accepts_certificate(program([1], row), ("best", rs(0), rs(2), [])), True)
        self.assertIs(accepts_certificate(program([1], row, free=(0,)), ("best", rs(0), rs(2), [])), False)
        self.assertIs(accepts_certificate(program([1], row, free=(0,)), ("best", rs(0), rs(1), [])), True)
        self.assertIs(accepts_certificate(program([3], row), ("best", rs(0), rs(2), [])), False)

    def test_value_below_the_bound(self):
        self.assertIs(accepts_certificate(EXAMPLE, ("best", rs(3, 0), rs(1), [])), False)
        self.assertIs(accepts_certificate(EXAMPLE, ("best", rs(4, 0), rs(2), [])), False)

    def test_no_variables_and_no_rows(self):
        self.assertIs(accepts_certificate(program([], []), ("best", [], [], [])), True)
        self.assertIs(accepts_certificate(program([-1], []), ("best", rs(0), [], [])), True)
        self.assertIs(accepts_certificate(program([1], []), ("best", rs(0), [], [])), False)
        self.assertIs(accepts_certificate(program([-1], [], free=(0,)), ("best", rs(0), [], [])), False)


class NoPoint(unittest.TestCase):
    item = program([5, 5], [([1, 1], "at least", 3), ([1, 2], "at most", 2), ([0, 0], "exactly", 0)])

    def test_accepted(self):
        for y in (rs(-1, 1, 0), rs(-2, 2, 0), rs(-1, 1, -7), [r(-1), r(5, 4), ZERO]):
            self.assertIs(accepts_certificate(self.item, ("none", [], y, [])), True)

    def test_lists_that_are_not_used(self):
        for other in ([], rs(1), rs(3, 0), rs(1, 2, 3)):
            self.assertIs(accepts_certificate(self.item, ("none", other, rs(-1, 1, 0), other)), True)

    def test_one_change(self):
        for y in (rs(1, 1, 0), rs(-1, -1, 0), rs(0, 1, 0), rs(-1, 0, 0), rs(-2, 1, 0), rs(-1, 2, 0), rs(-1, 1),
                  rs(-1, 1, 0, 0), [], rs(0, 0, 0)):
            self.assertIs(accepts_certificate(self.item, ("none", [], y, [])), False)

    def test_free_column(self):
        rows = [([1, 0], "exactly", 1), ([1, 1], "exactly", 0)]
        item = program([0, 0], rows)
        self.assertIs(accepts_certificate(item, ("none", [], rs(-1, 1), [])), True)
        item = program([0, 0], rows, free=(1,))
        self.assertIs(accepts_certificate(item, ("none", [], rs(-1, 1), [])), False)


class Endless(unittest.TestCase):
    item = program(
        [1, -1, 0],
        [([1, -1, 0], "at least", 0), ([0, 1, 0], "at most", 5), ([1, 0, -1], "exactly", 2)],
        free=(1,),
    )

    def test_accepted(self):
        for x, ray in [(rs(2, 0, 0), rs(1, 0, 1)), (rs(4, 1, 2), rs(2, -3, 2)), (rs(2, 2, 0), rs(0, -1, 0))]:
            self.assertIs(accepts_certificate(self.item, ("endless", x, [], ray)), True)

    def test_lists_that_are_not_used(self):
        for y in ([], rs(1), rs(1, 2, 3), rs(1, 2, 3, 4)):
            self.assertIs(accepts_certificate(self.item, ("endless", rs(2, 0, 0), y, rs(1, 0, 1))), True)

    def test_one_change(self):
        for x in (rs(2, 0, 1), rs(1, 0, 0), rs(2, 3, 0), rs(2, 0), rs(2, 0, 0, 0), [], rs(8, 6, 6)):
            self.assertIs(accepts_certificate(self.item, ("endless", x, [], rs(1, 0, 1))), False)
        for ray in (rs(1, 0, 0), rs(1, 0, 2), rs(1, 1, 1), rs(0, 1, 0), rs(-1, -2, -1), rs(1, 0), rs(1, 0, 1, 0), [],
                    rs(0, 0, 0), rs(2, 1, 2)):
            self.assertIs(accepts_certificate(self.item, ("endless", rs(2, 0, 0), [], ray)), False)

    def test_ray_below_zero(self):
        item = program([-1], [])
        self.assertIs(accepts_certificate(item, ("endless", rs(0), [], rs(-1))), False)
        item = program([-1], [], free=(0,))
        self.assertIs(accepts_certificate(item, ("endless", rs(0), [], rs(-1))), True)


class Kinds(unittest.TestCase):
    def test_other_kinds(self):
        for kind in ("", "Best", "best ", "worst", "nothing", "unbounded"):
            self.assertIs(accepts_certificate(EXAMPLE, (kind, rs(4, 0), rs(1), [])), False)

    def test_kind_of_another_certificate(self):
        good = {
            "best": (EXAMPLE, rs(4, 0), rs(1), []),
            "none": (NoPoint.item, [], rs(-1, 1, 0), []),
            "endless": (Endless.item, rs(2, 0, 0), [], rs(1, 0, 1)),
        }
        for kind, (item, x, y, ray) in good.items():
            for other in good:
                self.assertIs(accepts_certificate(item, (other, x, y, ray)), other == kind)

    def test_bound_of(self):
        self.assertEqual(bound_of(MIXED, rs(1, 2, 3)), (12, 1))
        self.assertEqual(bound_of(MIXED, [r(1, 2), ZERO, r(-1, 3)]), (4, 3))
        self.assertEqual(bound_of(program([1], []), []), (0, 1))


class Random(unittest.TestCase):
    def test_against_the_judge(self):
        source = seeded(4)
        seen = []
        for _ in range(400):
            item = some_program(source, 3)
            before = state(item)
            kind, x, y, ray = solve_program(item)
            for _ in range(6):
                lists = [list(x), list(y), list(ray)]
                changed = source.choice(lists)
                if changed:
                    changed[source.randrange(len(changed))] = some_ratio(source)
                elif source.random() < 0.3:
                    changed.append(ONE)
                certificate = (kind, *lists)
                found = accepts_certificate(item, certificate)
                seen.append(found)
                self.assertIs(found, judged_certificate(item, certificate))
                self.assertEqual((certificate, state(item)), ((kind, *lists), before))
        self.assertGreater(seen.count(True), 100)
        self.assertGreater(seen.count(False), 100)

    def test_facts(self):
        source = seeded(5)
        for _ in range(200):
            item = some_program(source, 3)
            kind, x, _, ray = solve_program(item)
            for _ in range(30):
                point = [some_ratio(source, 3) for _ in range(item.variables)]
                if judged_certificate(Program(item.variables, free=item.free, goal=[ZERO] * item.variables,
                                              rows=item.rows), ("best", point, [ZERO] * len(item.rows), [])):
                    self.assertNotEqual(kind, "none")
                    if kind == "best":
                        self.assertLessEqual(plain(value_of(item, point)), plain(value_of(item, x)))
            if kind == "endless":
                for many in (1, 7):
                    point = [r(plain(a) + many * plain(b)) for a, b in zip(x, ray)]
                    self.assertTrue(accepts_certificate(item, ("endless", point, [], ray)))


if __name__ == "__main__":
    unittest.main()
