"""Points 12 to 14: linear programs and the points that fit them."""

import unittest

from tests.kit import ONE, ZERO, judged_fit, plain, program, r, rs, seeded, some_program, some_ratio, state
from unbent.errors import InvalidProgram, TooLarge
from unbent.programs import Program, fits, value_of, with_rows


def built(variables, rows, free=None, goal=None):
    return Program(
        variables,
        free=[False] * variables if free is None else free,
        goal=[ZERO] * variables if goal is None else goal,
        rows=rows,
    )


def row(variables, sign="at most", bound=ONE):
    return [ZERO] * variables, sign, bound


class Examples(unittest.TestCase):
    def test_of_the_interface(self):
        rows = [([(1, 1), (2, 1)], "at most", (4, 1))]
        item = Program(2, free=[False, False], goal=[(1, 1), (1, 1)], rows=rows)
        found = fits(item, [(4, 1), (0, 1)]), value_of(item, [(4, 1), (0, 1)])
        self.assertEqual(found, (True, (4, 1)))
        self.assertIs(fits(item, [(4, 1), (1, 2)]), False)


class Construction(unittest.TestCase):
    def test_attributes(self):
        rows = [(rs(1, 2), "at least", r(3)), (rs(0, -1), "exactly", r(-1))]
        item = Program(2, free=[True, False], goal=rs(5, 6), rows=rows)
        self.assertEqual((item.variables, item.free, item.goal), (2, [True, False], rs(5, 6)))
        self.assertEqual(item.rows, rows)
        self.assertIsInstance(item.rows, list)
        self.assertTrue(all(isinstance(row, tuple) for row in item.rows))

    def test_lists_are_copied(self):
        free, goal, numbers = [True, False], rs(5, 6), rs(1, 2)
        rows = [(numbers, "at least", r(3))]
        item = Program(2, free=free, goal=goal, rows=rows)
        before = state(item)
        free[0] = False
        goal.append(ONE)
        numbers[1] = r(9)
        rows.pop()
        self.assertEqual(state(item), before)

    def test_limits(self):
        self.assertEqual(built(160, []).variables, 160)
        self.assertEqual(len(built(1, [row(1)] * 400).rows), 400)
        for variables, rows in [(161, []), (1, [row(1)] * 401), (161, [row(161)] * 401)]:
            with self.assertRaises(TooLarge):
                built(variables, rows)
        self.assertEqual(len(built(0, [row(0)] * 400).rows), 400)

    def test_invalid(self):
        cases = [
            (-1, [], [], []), (-5, [], [], []), (2, [False], rs(0, 0), []), (2, [False] * 3, rs(0, 0), []),
            (2, [], rs(0, 0), []), (2, [False] * 2, rs(0), []), (2, [False] * 2, rs(0, 0, 0), []),
            (0, [], rs(0), []), (0, [False], [], []),
        ]
        good = (rs(1, 1), "at most", ONE)
        for bad in [
            (rs(1), "at most", ONE), (rs(1, 1, 1), "at most", ONE), ([], "exactly", ONE), (rs(1, 1), "below", ONE),
            (rs(1, 1), "", ONE), (rs(1, 1), "At most", ONE), (rs(1, 1), "at most ", ONE), (rs(1, 1), "=", ONE),
        ]:
            for at in range(3):
                cases.append((2, [False] * 2, rs(0, 0), [good] * at + [bad] + [good] * (2 - at)))
        for variables, free, goal, rows in cases:
            with self.subTest(variables=variables, free=free, goal=goal, rows=rows):
                with self.assertRaises(InvalidProgram):
                    Program(variables, free=free, goal=goal, rows=rows)

    def test_size_comes_first(self):
        with self.assertRaises(TooLarge):
            Program(161, free=[], goal=[], rows=[])
        with self.assertRaises(TooLarge):
            Program(-1, free=[], goal=[], rows=[([], "below", ONE)] * 401)
        with self.assertRaises(InvalidProgram):
            Program(160, free=[], goal=[], rows=[])


class Fitting(unittest.TestCase):
    def test_each_sign(self):
        expected = {
            "at least": [False, True, True],
            "at most": [True, True, False],
            "exactly": [False, True, False],
        }
        for sign, held in expected.items():
            item = program([0, 0], [([1, -2], sign, -3)], free=(0,))
            points = [rs(-2, 1), rs(-1, 1), rs(0, 1)]
            self.assertEqual([fits(item, point) for point in points], held)

    def test_free_variables(self):
        item = program([0, 0], [], free=(1,))
        self.assertEqual([fits(item, rs(*point)) for point in [(0, -1), (0, 0), (-1, 0)]], [True, True, False])
        self.assertIs(fits(item, [(-1, 100), ZERO]), False)

    def test_points_of_another_length(self):
        item = program([1, 1], [([1, 1], "at most", 5)])
        self.assertEqual([fits(item, rs(*[1] * many)) for many in range(4)], [False, False, True, False])
        self.assertEqual((fits(program([], []), []), fits(program([], []), rs(0))), (True, False))
        self.assertIs(fits(program([], [([], "exactly", 1)]), []), False)
        self.assertIs(fits(program([], [([], "at most", 1)]), []), True)

    def test_all_rows_count(self):
        rows = [([1], "at least", 1), ([1], "at most", 3), ([2], "exactly", 4)]
        for at in range(3):
            item = program([0], rows[:at] + rows[at + 1:])
            self.assertIs(fits(item, rs(2)), True)
            self.assertIs(fits(item, rs(4)), False)
        self.assertIs(fits(program([0], rows), rs(2)), True)

    def test_against_the_judge(self):
        source = seeded(1)
        found = []
        for _ in range(600):
            item = some_program(source, 3)
            before = state(item)
            point = [some_ratio(source, 2) for _ in range(item.variables + source.choice((0, 0, 0, 0, 1)))]
            kept = list(point)
            found.append(fits(item, point))
            self.assertIs(found[-1], judged_fit(item, point))
            if len(point) == item.variables:
                amount = sum(plain(a) * plain(x) for a, x in zip(item.goal, point))
                self.assertEqual(plain(value_of(item, point)), amount)
            self.assertEqual((state(item), point), (before, kept))
        self.assertGreater(found.count(True), 50)
        self.assertGreater(found.count(False), 50)


class WithRows(unittest.TestCase):
    def test_rows_stand_behind(self):
        item = program([1, 2], [([1, 1], "at most", 5)], free=(1,))
        before = state(item)
        numbers = rs(0, 1)
        rows = [(numbers, "at least", ZERO), (rs(1, 0), "exactly", ONE)]
        longer = with_rows(item, rows)
        self.assertEqual(state(item), before)
        self.assertEqual(longer.rows, item.rows + rows)
        self.assertEqual((longer.variables, longer.free, longer.goal), (2, [False, True], rs(1, 2)))
        numbers[0] = r(7)
        rows.clear()
        self.assertEqual(longer.rows[1], (rs(0, 1), "at least", ZERO))
        longer.rows[0][0][0] = r(8)
        self.assertEqual(state(item), before)
        self.assertEqual(with_rows(item, []).rows, item.rows)

    def test_errors(self):
        item = built(2, [row(2)] * 399)
        self.assertEqual(len(with_rows(item, [row(2)]).rows), 400)
        with self.assertRaises(TooLarge):
            with_rows(item, [row(2)] * 2)
        with self.assertRaises(TooLarge):
            with_rows(item, [row(1)] * 2)
        with self.assertRaises(InvalidProgram):
            with_rows(item, [row(1)])
        with self.assertRaises(InvalidProgram):
            with_rows(item, [row(2, "more")])


if __name__ == "__main__":
    unittest.main()
