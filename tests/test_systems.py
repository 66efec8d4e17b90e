"""Points 8 to 11: systems of equations."""

import copy
import itertools
import unittest
from fractions import Fraction

from tests.kit import ONE, ZERO, plain, r, rs, seeded, some_ratio
from unbent.errors import InvalidSystem, TooLarge
from unbent.systems import is_contradiction, is_solution, rank, solve


def judged_solution(rows, bounds, values):
    return all(
        sum((plain(a) * plain(x) for a, x in zip(row, values)), Fraction(0)) == plain(bound)
        for row, bound in zip(rows, bounds)
    )


def judged_contradiction(rows, bounds, factors):
    width = len(rows[0]) if rows else 0
    for column in range(width):
        if sum((plain(f) * plain(row[column]) for f, row in zip(factors, rows)), Fraction(0)) != 0:
            return False
    return sum((plain(f) * plain(bound) for f, bound in zip(factors, bounds)), Fraction(0)) != 0


def judged_rank(rows):
    rows = [[plain(a) for a in row] for row in rows]
    found = 0
    for column in range(len(rows[0]) if rows else 0):
        pivot = next((at for at in range(found, len(rows)) if rows[at][column] != 0), None)
        if pivot is None:
            continue
        rows[found], rows[pivot] = rows[pivot], rows[found]
        for at in range(found + 1, len(rows)):
            factor = rows[at][column] / rows[found][column]
            rows[at] = [a - factor * b for a, b in zip(rows[at], rows[found])]
        found += 1
    return found


def columns_to_the_left(rows, many):
    return [row[:many] for row in rows]


def depends(rows, column):
    return judged_rank(columns_to_the_left(rows, column + 1)) == judged_rank(columns_to_the_left(rows, column))


def some_systems():
    source = seeded(1)
    for _ in range(500):
        height, width = source.randint(0, 4), source.randint(0, 4)
        rows = []
        for _ in range(height):
            if rows and source.random() < 0.4:
                factor = some_ratio(source)
                rows.append([r(plain(factor) * plain(a)) for a in source.choice(rows)])
            else:
                rows.append([some_ratio(source) for _ in range(width)])
        for column in range(width):
            if source.random() < 0.2:
                for row in rows:
                    row[column] = ZERO
        if source.random() < 0.6:
            secret = [some_ratio(source) for _ in range(width)]
            bounds = [r(sum((plain(a) * plain(x) for a, x in zip(row, secret)), Fraction(0))) for row in rows]
        else:
            bounds = [some_ratio(source) for _ in rows]
        yield rows, bounds


class Examples(unittest.TestCase):
    def test_of_the_interface(self):
        self.assertEqual(
            solve([[(0, 1), (2, 1), (4, 1)]], [(6, 1)]), ("solution", [(0, 1), (3, 1), (0, 1)]))
        self.assertEqual(solve([[(1, 1)], [(2, 1)]], [(2, 1), (3, 1)])[0], "contradiction")
        self.assertIs(is_contradiction([[(1, 1)], [(2, 1)]], [(2, 1), (3, 1)], [(-2, 1), (1, 1)]), True)
        self.assertEqual(rank([[(1, 1), (2, 1)], [(2, 1), (4, 1)]]), 1)


class Solving(unittest.TestCase):
    def test_small_systems(self):
        kinds = []
        for rows, bounds in some_systems():
            before = copy.deepcopy((rows, bounds))
            kind, found = solve(rows, bounds)
            kinds.append(kind)
            self.assertEqual((rows, bounds), before)
            width = len(rows[0]) if rows else 0
            augmented = [row + [bound] for row, bound in zip(rows, bounds)]
            solvable = judged_rank(augmented) == judged_rank(rows)
            self.assertEqual(kind, "solution" if solvable else "contradiction")
            if solvable:
                self.assertEqual(len(found), width)
                self.assertTrue(judged_solution(rows, bounds, found))
                self.assertTrue(is_solution(rows, bounds, found))
                for column in range(width):
                    if depends(rows, column):
                        self.assertEqual(found[column], ZERO)
            else:
                self.assertEqual(len(found), len(rows))
                self.assertTrue(judged_contradiction(rows, bounds, found))
                self.assertTrue(is_contradiction(rows, bounds, found))
            self.assertEqual(rank(rows), judged_rank(rows))
            self.assertEqual(rows, before[0])
        self.assertGreater(kinds.count("contradiction"), 50)

    def test_no_rows_and_no_columns(self):
        self.assertEqual(solve([], []), ("solution", []))
        self.assertEqual(solve([[], []], rs(0, 0)), ("solution", []))
        kind, found = solve([[], [], []], rs(0, 5, 0))
        self.assertEqual(kind, "contradiction")
        self.assertTrue(judged_contradiction([[], [], []], rs(0, 5, 0), found))
        self.assertEqual((rank([]), rank([[]]), rank([[], []])), (0, 0, 0))

    def test_columns_of_zeros_and_multiples(self):
        rows = [rs(0, 1, 2, 0, 1), rs(0, 2, 4, 0, 3)]
        self.assertEqual(solve(rows, rs(3, 8)), ("solution", rs(0, 1, 0, 0, 2)))
        self.assertEqual(rank(rows), 2)
        self.assertEqual(rank([rs(0, 0), rs(0, 0)]), 0)
        self.assertEqual(solve([rs(0, 0)], rs(0)), ("solution", rs(0, 0)))
        self.assertEqual(solve([rs(0, 0)], rs(1))[0], "contradiction")

    def test_all_systems_of_two_rows_of_bits(self):
        for numbers in itertools.product((0, 1), repeat=6):
            rows, bounds = [rs(*numbers[:2]), rs(*numbers[2:4])], rs(*numbers[4:])
            kind, found = solve(rows, bounds)
            check = judged_solution if kind == "solution" else judged_contradiction
            self.assertTrue(check(rows, bounds, found))

    def test_a_system_of_full_size(self):
        source = seeded(2)
        rows = [[some_ratio(source, 9) for _ in range(72)] for _ in range(72)]
        secret = [some_ratio(source) for _ in range(72)]
        bounds = [r(sum(plain(a) * plain(x) for a, x in zip(row, secret))) for row in rows]
        self.assertEqual(solve(rows, bounds), ("solution", secret))
        self.assertEqual(rank(rows), 72)
        kind, factors = solve([rows[0]] + rows[:71], rs(1, 2) + bounds[1:71])
        self.assertEqual(kind, "contradiction")
        self.assertTrue(judged_contradiction([rows[0]] + rows[:71], rs(1, 2) + bounds[1:71], factors))

    def test_what_is_returned_is_new(self):
        rows, bounds = [rs(1)], rs(4)
        first = solve(rows, bounds)[1]
        first[0] = r(9)
        self.assertEqual((solve(rows, bounds)[1], rows, bounds), (rs(4), [rs(1)], rs(4)))


class Checking(unittest.TestCase):
    def test_is_solution(self):
        rows, bounds = [rs(1, 2), rs(0, 3)], rs(5, 6)
        self.assertIs(is_solution(rows, bounds, rs(1, 2)), True)
        for values in [rs(2, 2), rs(1, 1), rs(1), rs(1, 2, 0), []]:
            self.assertIs(is_solution(rows, bounds, values), False)
        self.assertIs(is_solution([], [], []), True)
        self.assertIs(is_solution([], [], rs(0)), False)
        self.assertIs(is_solution([[]], rs(0), []), True)
        self.assertIs(is_solution([[]], rs(1), []), False)

    def test_is_contradiction(self):
        rows, bounds = [rs(1, 2), rs(2, 4), rs(0, 1)], rs(2, 3, 7)
        self.assertIs(is_contradiction(rows, bounds, rs(-2, 1, 0)), True)
        for factors in [rs(-2, 2, 0), rs(-2, 1, 1), rs(0, 0, 0), rs(-2, 1), rs(-2, 1, 0, 0), []]:
            self.assertIs(is_contradiction(rows, bounds, factors), False)
        self.assertIs(is_contradiction(rows, rs(2, 4, 7), rs(-2, 1, 0)), False)
        self.assertIs(is_contradiction([], [], []), False)
        self.assertIs(is_contradiction([], [], rs(1)), False)
        self.assertIs(is_contradiction([[]], rs(2), rs(1)), True)
        self.assertIs(is_contradiction([[]], rs(0), rs(1)), False)

    def test_changed_lists(self):
        for rows, bounds in some_systems():
            kind, found = solve(rows, bounds)
            check, judge, width = (
                (is_solution, judged_solution, len(rows[0]) if rows else 0) if kind == "solution"
                else (is_contradiction, judged_contradiction, len(rows)))
            self.assertIs(check(rows, bounds, found + [ZERO]), False)
            if found:
                self.assertIs(check(rows, bounds, found[:-1]), False)
            for at in range(width):
                changed = list(found)
                changed[at] = r(plain(found[at]) + 1)
                self.assertIs(check(rows, bounds, changed), judge(rows, bounds, changed))


class Faults(unittest.TestCase):
    def test_rows_of_different_lengths(self):
        for at in range(4):
            for changed in (rs(1), rs(1, 1, 1)):
                rows = [rs(1, 0), rs(0, 1), rs(1, 1), rs(2, 1)]
                rows[at] = changed
                with self.assertRaises(InvalidSystem):
                    solve(rows, rs(1, 2, 3, 4))
                with self.assertRaises(InvalidSystem):
                    rank(rows)

    def test_number_of_bounds(self):
        for bounds in (rs(1), rs(1, 2, 3), []):
            with self.assertRaises(InvalidSystem):
                solve([rs(1, 0), rs(0, 1)], bounds)
        with self.assertRaises(InvalidSystem):
            solve([], rs(1))

    def test_limits(self):
        tall, wide = [[ONE]] * 72, [[ONE] * 72]
        self.assertEqual(solve(tall, [ONE] * 72), ("solution", [ONE]))
        self.assertEqual(solve(wide, [ONE]), ("solution", [ONE] + [ZERO] * 71))
        self.assertEqual((rank(tall), rank(wide)), (1, 1))
        for rows in ([[ONE]] * 73, [[ONE] * 73], [[ONE] * 73] * 73):
            with self.assertRaises(TooLarge):
                solve(rows, [ONE] * len(rows))
            with self.assertRaises(TooLarge):
                rank(rows)

    def test_both_faults(self):
        with self.assertRaises(InvalidSystem):
            solve([[ONE]] * 73, [ONE] * 72)
        with self.assertRaises(InvalidSystem):
            solve([[ONE]] * 72 + [[ONE, ONE]], [ONE] * 73)
        with self.assertRaises(InvalidSystem):
            rank([[ONE] * 73, [ONE] * 72])
        with self.assertRaises(InvalidSystem):
            solve([[ONE] * 73], [])


if __name__ == "__main__":
    unittest.main()
