"""Points 16 and 17: the search for a certificate of a linear program."""

import unittest
from fractions import Fraction

from tests.kit import (
    ONE, ZERO, judged_certificate, plain, program, r, rs, seeded, some_program, some_ratio, state,
)
from unbent.certificates import accepts_certificate
from unbent.errors import TooLarge
from unbent.programs import Program, value_of
from unbent.ratios import is_ratio
from unbent.simplex import solve_program

UNUSED = {"best": (3,), "none": (1, 3), "endless": (2,)}


class Solved(unittest.TestCase):
    def solved(self, item, kind=None, value=None):
        """Solve a program, check all that holds for every answer, and return the certificate."""
        before = state(item)
        certificate = solve_program(item)
        self.assertEqual(state(item), before)
        self.assertEqual(solve_program(item), certificate)
        self.assertIsInstance(certificate, tuple)
        self.assertEqual(len(certificate), 4)
        self.assertIs(accepts_certificate(item, certificate), True)
        self.assertIs(judged_certificate(item, certificate), True)
        for at in (1, 2, 3):
            self.assertIsInstance(certificate[at], list)
            self.assertTrue(all(is_ratio(number) for number in certificate[at]))
        for at in UNUSED[certificate[0]]:
            self.assertEqual(certificate[at], [])
        if kind is not None:
            self.assertEqual(certificate[0], kind)
        if value is not None:
            self.assertEqual(plain(value_of(item, certificate[1])), plain(r(value)))
        return certificate


class Examples(Solved):
    def test_of_the_interface(self):
        rows = [([(1, 1), (2, 1)], "at most", (4, 1))]
        item = Program(2, free=[False, False], goal=[(1, 1), (1, 1)], rows=rows)
        self.assertEqual(solve_program(item)[0], "best")
        self.assertEqual(solve_program(Program(1, free=[True], goal=[(1, 1)], rows=[]))[0], "endless")


class Best(Solved):
    def test_small_programs(self):
        self.solved(program([3, 5], [([1, 0], "at most", 4), ([0, 2], "at most", 12), ([3, 2], "at most", 18)]),
                    "best", 36)
        self.solved(program([-1, -1], [([1, 2], "at least", 4), ([3, 1], "at least", 6)]), "best", Fraction(-14, 5))
        self.solved(program([1, 2], [([1, 1], "exactly", 3), ([1, -1], "at least", 1)]), "best", 4)

    def test_free_variables(self):
        self.solved(program([-1, 0], [([1, 1], "at least", -3), ([0, 1], "at most", 2)], free=(0, 1)), "best", 5)
        self.solved(program([1], [([-2], "at least", 5)], free=(0,)), "best", Fraction(-5, 2))
        self.solved(program([0, 1], [([1, 1], "exactly", -2), ([1, 0], "at least", -7)], free=(0, 1)), "best", 5)
        # A free variable that stands in no row and not in the goal.
        self.solved(program([0, 1], [([0, 1], "at most", 3)], free=(0,)), "best", 3)

    def test_without_rows(self):
        self.assertEqual(self.solved(program([], []), "best", 0), ("best", [], [], []))
        self.assertEqual(self.solved(program([-1, 0], []), "best", 0), ("best", rs(0, 0), [], []))
        self.solved(program([0], [], free=(0,)), "best", 0)

    def test_without_variables(self):
        rows = [([], "at most", 0), ([], "at least", -1), ([], "exactly", 0)]
        self.solved(program([], rows), "best", 0)

    def test_rows_that_repeat(self):
        rows = [([1, 1], "exactly", 2), ([2, 2], "exactly", 4), ([1, 1], "at most", 2), ([1, 1], "at least", 2)] * 3
        self.solved(program([1, 3], rows), "best", 6)
        self.solved(program([1, 3], rows + [([0, 0], "exactly", 0)] * 2), "best", 6)
        self.solved(program([0, 0, 0], [([1, 1, 0], "exactly", 0)] * 4 + [([1, 1, 1], "exactly", 0)] * 4), "best", 0)

    def test_a_single_point(self):
        self.solved(program([1], [([1], "at most", 0)]), "best", 0)
        self.solved(program([5, -7], [([1, 0], "exactly", 3), ([0, 1], "exactly", 2)]), "best", 1)


class NoPoint(Solved):
    def test_rows_that_contradict_each_other(self):
        self.solved(program([1], [([1], "at least", 2), ([1], "at most", 1)]), "none")
        self.solved(program([1, 1], [([1, 1], "exactly", 1), ([2, 2], "exactly", 3)]), "none")
        self.solved(program([1, 1], [([1, 1], "exactly", 1)] * 3 + [([1, 1], "exactly", 2)], free=(0, 1)), "none")
        self.solved(program([0], [([1], "exactly", -1)]), "none")
        self.solved(program([0], [([1], "at most", -1)]), "none")
        self.solved(program([0], [([-1], "at least", 1)]), "none")

    def test_one_row(self):
        for sign, bound in [("at least", 1), ("at most", -1), ("exactly", 1), ("exactly", -1)]:
            self.solved(program([], [([], sign, bound)]), "none")
            self.solved(program([1], [([0], sign, bound)], free=(0,)), "none")

    def test_behind_other_rows(self):
        rows = [([1, 0], "at most", 5), ([0, 1], "at most", 5), ([1, 1], "at least", 11), ([1, -1], "at most", 9)]
        certificate = self.solved(program([1, 1], rows), "none")
        self.assertEqual(len(certificate[2]), 4)

    def test_goal_without_bound_does_not_matter(self):
        self.solved(program([1, 1], [([1, 0], "exactly", -1)], free=(1,)), "none")


class Endless(Solved):
    def test_small_programs(self):
        self.solved(program([1], []), "endless")
        self.solved(program([-1], [], free=(0,)), "endless")
        self.solved(program([1, 0], [([1, -1], "at most", 2)]), "endless")
        self.solved(program([0, 1], [([1, 1], "exactly", 3), ([1, 0], "at least", 2)], free=(0, 1)), "best", 1)
        self.solved(program([0, 1], [([1, 1], "exactly", 3), ([1, 0], "at most", 2)], free=(0, 1)), "endless")

    def test_the_point_must_be_found_first(self):
        rows = [([1, 1, 0], "at least", 4), ([1, -1, 0], "exactly", -2), ([0, 0, 1], "at least", 1)]
        self.solved(program([0, 0, 1], rows), "endless")

    def test_free_variable_in_no_row(self):
        for number in (1, -1):
            self.solved(program([0, number], [([1, 0], "at least", 3)], free=(1,)), "endless")


class Circles(Solved):
    """Programs with tied rows, where a careless choice of the steps comes back to where it was."""

    def test_beale(self):
        item = Program(4, free=[False] * 4, goal=[(3, 4), (-150, 1), (1, 50), (-6, 1)], rows=[
            ([(1, 4), (-60, 1), (-1, 25), (9, 1)], "at most", ZERO),
            ([(1, 2), (-90, 1), (-1, 50), (3, 1)], "at most", ZERO),
            (rs(0, 0, 1, 0), "at most", ONE),
        ])
        certificate = self.solved(item, "best")
        self.assertEqual(value_of(item, certificate[1]), (1, 20))

    def test_chvatal(self):
        item = Program(4, free=[False] * 4, goal=rs(10, -57, -9, -24), rows=[
            ([(1, 2), (-11, 2), (-5, 2), (9, 1)], "at most", ZERO),
            ([(1, 2), (-3, 2), (-1, 2), (1, 1)], "at most", ZERO),
            (rs(1, 0, 0, 0), "at most", ONE),
        ])
        self.solved(item, "best", 1)

    def test_marshall_and_suurballe(self):
        item = Program(4, free=[False] * 4, goal=[(2, 5), (2, 5), (-9, 5), ZERO], rows=[
            ([(3, 5), (-32, 5), (24, 5), ZERO], "at most", ZERO),
            ([(1, 5), (-9, 5), (3, 5), ZERO], "at most", ZERO),
            ([(2, 5), (-8, 5), (1, 5), ONE], "at most", ZERO),
            (rs(0, 1, 0, 0), "at most", ONE),
        ])
        self.solved(item)

    def test_many_tied_rows(self):
        source = seeded(11)
        for _ in range(40):
            rows = [([source.randint(-3, 3) for _ in range(5)], source.choice(("at most", "exactly")), 0)
                    for _ in range(8)]
            self.solved(program([source.randint(-3, 3) for _ in range(5)], rows + [([1] * 5, "at most", 1)]), "best")
            self.solved(program([source.randint(-3, 3) for _ in range(5)], rows), None)
            self.solved(program([0] * 5, rows + [([1] * 5, "exactly", 1)]), None)

    def test_exact_rows_through_the_origin(self):
        # Each of these rows holds already when it is added, and must go on to hold.
        source = seeded(12)
        for _ in range(60):
            rows = [([source.randint(-2, 2) for _ in range(8)], "exactly", 0) for _ in range(3)]
            goal = [source.randint(-3, 3) for _ in range(8)]
            self.solved(program(goal, rows + [([1] * 8, "at most", 1)]), "best")
            box = [([1 if at == side else 0 for at in range(8)], "at most", 1) for side in range(8)]
            box += [([-1 if at == side else 0 for at in range(8)], "at most", 1) for side in range(8)]
            self.solved(program(goal, rows + box, free=range(8)), "best")

    def test_long_ways(self):
        # Of such a program some searches visit all corners, 2 to the power of the number of variables.
        many = 24
        rows = []
        for at in range(many):
            numbers = [2 ** (at - left + 1) for left in range(at)] + [1] + [0] * (many - at - 1)
            rows.append((numbers, "at most", 5 ** (at + 1)))
        self.solved(program([2 ** (many - 1 - at) for at in range(many)], rows), "best", 5 ** many)


class Random(Solved):
    def test_all_kinds(self):
        source = seeded(21)
        kinds = []
        for _ in range(500):
            kinds.append(self.solved(some_program(source))[0])
        for _ in range(200):
            kinds.append(self.solved(some_program(source, 6, ("at most", "at least"), 0))[0])
        for kind in ("best", "none", "endless"):
            self.assertGreater(kinds.count(kind), 40)

    def test_programs_that_a_secret_point_fits(self):
        source = seeded(22)
        for _ in range(60):
            variables = source.randint(1, 8)
            secret = [r(source.randint(0, 4)) for _ in range(variables)]
            rows = []
            for _ in range(source.randint(1, 10)):
                numbers = [some_ratio(source) for _ in range(variables)]
                amount = sum(plain(a) * plain(x) for a, x in zip(numbers, secret))
                sign, slack = source.choice((("at most", 1), ("at least", -1), ("exactly", 0)))
                rows.append((numbers, sign, r(amount + slack * source.randint(0, 2))))
            item = Program(variables, free=[False] * variables,
                           goal=[some_ratio(source) for _ in range(variables)], rows=rows)
            kind, x, _, _ = self.solved(item)
            self.assertNotEqual(kind, "none")
            if kind == "best":
                self.assertGreaterEqual(plain(value_of(item, x)), plain(value_of(item, secret)))


class Limits(Solved):
    def test_the_largest(self):
        item = Program(72, free=[False] * 72, goal=[ONE] * 72, rows=[([ONE] * 72, "at most", r(7))] * 200)
        self.solved(item, "best", 7)
        source = seeded(31)
        rows = [([r(source.randint(-3, 9)) for _ in range(72)], "at most", r(source.randint(1, 50)))
                for _ in range(200)]
        item = Program(72, free=[at % 9 == 0 for at in range(72)],
                       goal=[r(source.randint(-9, 9)) for _ in range(72)], rows=rows)
        self.solved(item)

    def test_one_more(self):
        for variables, rows in [(73, 0), (72, 201), (73, 201), (160, 400), (1, 201)]:
            item = Program(variables, free=[False] * variables, goal=[ONE] * variables,
                           rows=[([ONE] * variables, "at most", ONE)] * rows)
            with self.assertRaises(TooLarge):
                solve_program(item)

    def test_long_numbers(self):
        large = 10 ** 58 + 9
        item = Program(2, free=[False, True], goal=[(large, 7), (1, large)], rows=[
            ([(large, 3), (1, large + 2)], "at most", (large, 11)), ([(1, large), (-large, 1)], "at least", (-1, large)),
        ])
        self.solved(item, "best")

    def test_what_is_returned_is_new(self):
        item = program([1], [([1], "at most", 3)])
        first = solve_program(item)
        first[1][0] = r(9)
        first[2].clear()
        self.assertEqual(solve_program(item), ("best", rs(3), rs(1), []))


if __name__ == "__main__":
    unittest.main()
