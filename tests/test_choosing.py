"""Points 74 and 75: choices in order, the random order, and lotteries of assignments."""

import copy
import itertools
import unittest
from fractions import Fraction

from tests.kit import ONE, ZERO, plain, plains, r, rs, seeded
from unbent.choosing import assignments, choose, random_choices
from unbent.errors import InvalidMatrix, InvalidWishes, TooLarge


class Examples(unittest.TestCase):
    def test_of_the_interface(self):
        self.assertEqual(choose([1, 0], [[0], [0, 1]], 2), [None, 0])
        self.assertEqual(random_choices([[0], [0, 1]], 2), [[(1, 2), (0, 1)], [(1, 2), (1, 2)]])
        self.assertEqual(assignments([[(1, 2), (1, 2)], [(1, 2), (1, 2)]]), [([0, 1], (1, 2)), ([1, 0], (1, 2))])


def judged_choice(order, wishes):
    had = {}
    for agent in order:
        had[agent] = next((thing for thing in wishes[agent] if thing not in had.values()), None)
    return [had[agent] for agent in range(len(wishes))]


def some_wishes(source, many, things):
    return [source.sample(range(things), source.randint(0, things)) for _ in range(many)]


def all_lists(things):
    return [list(line) for size in range(things + 1) for line in itertools.permutations(range(things), size)]


class Choices(unittest.TestCase):
    def test_each_order(self):
        wishes = [[0, 1, 2], [0, 2], [0, 1]]
        expected = {(0, 1, 2): [0, 2, 1], (0, 2, 1): [0, 2, 1], (1, 0, 2): [1, 0, None], (1, 2, 0): [2, 0, 1],
                    (2, 0, 1): [1, 2, 0], (2, 1, 0): [1, 2, 0]}
        for order, things in expected.items():
            self.assertEqual(choose(list(order), wishes, 3), things, order)

    def test_fewer_things_and_more(self):
        self.assertEqual(choose([2, 1, 0], [[0], [0], [0]], 1), [None, None, 0])
        self.assertEqual(choose([0, 1], [[5, 1], [5, 7, 0]], 8), [5, 7])
        self.assertEqual(choose([0, 1], [[], [1]], 2), [None, 1])
        self.assertEqual(choose([1, 0], [[], []], 0), [None, None])
        self.assertEqual(choose([], [], 3), [])

    def test_at_random(self):
        source = seeded(1601)
        for _ in range(200):
            many, things = source.randint(0, 8), source.randint(0, 8)
            wishes = some_wishes(source, many, things)
            order = source.sample(range(many), many)
            before = copy.deepcopy((wishes, order))
            self.assertEqual(choose(order, wishes, things), judged_choice(order, wishes))
            self.assertEqual((wishes, order), before)

    def test_no_other_list_helps(self):
        source = seeded(1602)
        for _ in range(30):
            wishes = some_wishes(source, 3, 3)
            order = source.sample(range(3), 3)
            found = choose(order, wishes, 3)
            for agent, own in enumerate(wishes):
                places = [*own, None]
                for line in all_lists(3):
                    other = choose(order, [*wishes[:agent], line, *wishes[agent + 1:]], 3)[agent]
                    self.assertFalse(other in places and places.index(other) < places.index(found[agent]))


class RandomOrder(unittest.TestCase):
    def test_written_out(self):
        third = r("1/3")
        self.assertEqual(random_choices([[0], [0], [0]], 1), [[third]] * 3)
        self.assertEqual(random_choices([[0, 1]], 3), [[ONE, ZERO, ZERO]])
        self.assertEqual(random_choices([[], [2]], 3), [[ZERO] * 3, [ZERO, ZERO, ONE]])
        self.assertEqual(random_choices([], 2), [])
        self.assertEqual(random_choices([[], []], 0), [[], []])

    def test_against_all_orders(self):
        source = seeded(1603)
        for at in range(40):
            many, things = source.randint(1, 4), source.randint(1, 5)
            if at == 0:
                many, things = 6, 8
            wishes = some_wishes(source, many, things)
            before = copy.deepcopy(wishes)
            orders = list(itertools.permutations(range(many)))
            counts = [[0] * things for _ in wishes]
            for order in orders:
                for agent, thing in enumerate(judged_choice(order, wishes)):
                    if thing is not None:
                        counts[agent][thing] += 1
            expected = [[r(Fraction(count, len(orders))) for count in line] for line in counts]
            self.assertEqual(random_choices(wishes, things), expected)
            self.assertEqual(wishes, before)

    def test_no_other_list_gives_more_of_the_first_things(self):
        source = seeded(1604)
        for _ in range(12):
            wishes = some_wishes(source, 3, 3)
            found = random_choices(wishes, 3)
            for agent, own in enumerate(wishes):
                for line in all_lists(3):
                    other = random_choices([*wishes[:agent], line, *wishes[agent + 1:]], 3)
                    for k in range(len(own) + 1):
                        mine = sum(plain(found[agent][thing]) for thing in own[:k])
                        self.assertLessEqual(sum(plain(other[agent][thing]) for thing in own[:k]), mine)


class WishFaults(unittest.TestCase):
    def refuse(self, order, wishes, things):
        for call in (lambda: choose(order, wishes, things), lambda: random_choices(wishes, things)):
            with self.assertRaises(InvalidWishes) as caught:
                call()
            self.assertEqual(caught.exception.reason, "list")

    def test_lists(self):
        for line in ([0, 0], [-1], [1, -1], [2], [0, 1, 2], [1, 0, 1]):
            self.refuse([0, 1], [line, []], 2)
            self.refuse([0, 1], [[], line], 2)
        self.refuse([0], [[0]], 0)

    def test_orders(self):
        for order in ([], [0], [0, 0], [0, 2], [-1, 0], [1, 2], [0, 1, 1], [0, 1, 2]):
            with self.assertRaises(InvalidWishes) as caught:
                choose(order, [[0], [0]], 2)
            self.assertEqual(caught.exception.reason, "list")
        with self.assertRaises(InvalidWishes):
            choose([0], [], 2)

    def too_large(self, call):
        with self.assertRaises(TooLarge) as caught:
            call()
        self.assertEqual(caught.exception.limit, "size")

    def test_limits(self):
        self.assertEqual(choose(list(range(8)), [list(range(8))] * 8, 8), list(range(8)))
        self.assertEqual(random_choices([list(range(8))] * 6, 8)[5], [r("1/6")] * 6 + [ZERO] * 2)
        self.too_large(lambda: choose(list(range(9)), [[]] * 9, 2))
        self.too_large(lambda: choose([0], [[0]], 9))
        self.too_large(lambda: random_choices([[]] * 7, 2))
        self.too_large(lambda: random_choices([[0]], 9))
        # The size comes ahead of everything else that is wrong.
        self.too_large(lambda: choose([0, 0], [[0, 0]] * 9, 2))
        self.too_large(lambda: choose([7], [[0, 0]], 9))
        self.too_large(lambda: random_choices([[-1]] * 7, 2))
        self.too_large(lambda: random_choices([[-1]], 9))


def judged_assignments(matrix):
    rest = [plains(row) for row in matrix]
    found = []
    while any(entry != 0 for row in rest for entry in row):
        columns = next(columns for columns in itertools.permutations(range(len(rest)))
                       if all(rest[row][column] > 0 for row, column in enumerate(columns)))
        weight = min(rest[row][column] for row, column in enumerate(columns))
        for row, column in enumerate(columns):
            rest[row][column] -= weight
        found.append((list(columns), r(weight)))
    return found


def mixed(many, parts):
    """The weighted sum of assignments."""
    matrix = [[Fraction(0)] * many for _ in range(many)]
    for columns, weight in parts:
        for row, column in enumerate(columns):
            matrix[row][column] += weight
    return [[r(entry) for entry in row] for row in matrix]


def some_matrix(source, many):
    drawn = [source.sample(range(many), many) for _ in range(source.randint(1, 2 * many))]
    shares = [source.randint(1, 5) for _ in drawn]
    return mixed(many, [(columns, Fraction(share, sum(shares))) for columns, share in zip(drawn, shares)])


class Lotteries(unittest.TestCase):
    def test_written_out(self):
        self.assertEqual(assignments([[ONE]]), [([0], ONE)])
        self.assertEqual(assignments([rs(0, 1), rs(1, 0)]), [([1, 0], ONE)])
        matrix = [rs("1/2", "1/3", "1/6"), rs("1/2", 0, "1/2"), rs(0, "2/3", "1/3")]
        self.assertEqual(assignments(matrix), [
            ([0, 2, 1], r("1/2")), ([1, 0, 2], r("1/3")), ([2, 0, 1], r("1/6"))])

    def test_the_first_one_of_what_is_left(self):
        matrix = [rs("1/4", "3/4"), rs("3/4", "1/4")]
        self.assertEqual(assignments(matrix), [([0, 1], r("1/4")), ([1, 0], r("3/4"))])
        matrix = [rs("1/2", "1/2", 0), rs("1/2", 0, "1/2"), rs(0, "1/2", "1/2")]
        self.assertEqual(assignments(matrix), [([0, 2, 1], r("1/2")), ([1, 0, 2], r("1/2"))])
        matrix = [rs("1/2", "1/2", 0, 0), rs("1/4", "1/4", "1/2", 0), rs("1/4", "1/4", 0, "1/2"), rs(0, 0, "1/2", "1/2")]
        self.assertEqual(assignments(matrix)[0], ([0, 1, 3, 2], r("1/4")))
        matrix = [rs("1/2", 0, "1/2"), rs("1/2", "1/2", 0), rs(0, "1/2", "1/2")]
        self.assertEqual(assignments(matrix), [([0, 1, 2], r("1/2")), ([2, 0, 1], r("1/2"))])

    def test_at_random(self):
        source = seeded(1605)
        longest = 0
        for at in range(60):
            many = 6 if at < 6 else source.randint(1, 5)
            matrix = some_matrix(source, many)
            before = copy.deepcopy(matrix)
            found = assignments(matrix)
            self.assertEqual(found, judged_assignments(matrix))
            self.assertEqual(mixed(many, [(columns, plain(weight)) for columns, weight in found]), matrix)
            self.assertEqual(sum(plain(weight) for _, weight in found), 1)
            self.assertTrue(all(plain(weight) > 0 for _, weight in found))
            self.assertLessEqual(len(found), (many - 1) * (many - 1) + 1)
            self.assertEqual(matrix, before)
            longest = max(longest, len(found))
        self.assertGreater(longest, 6)

    def test_faults(self):
        half = r("1/2")
        for matrix in (
                [], [[]], [[ZERO]], [rs(2)], [[ONE, ZERO]], [[ONE], [ZERO]], [rs(1, 0), rs(0, 1), rs(0, 0)],
                [[half, half], [half]], [[half, half], [half, half, ZERO]], [[half, half], [half, r("1/3")]],
                [rs(2, -1), rs(-1, 2)], [rs(1, 0), rs(1, 0)], [rs(1, 0, 0), rs(0, 1, 0), rs(0, 1, 0)], [rs(1, 1), rs(0, 0)], [rs("3/2", "-1/2"), rs("-1/2", "3/2")],
                [[half, half], [r("1/3"), r("2/3")]], [[half, half, ZERO], [half, half, ZERO]]):
            with self.assertRaises(InvalidMatrix):
                assignments(matrix)

    def test_limits(self):
        six = [[r("1/6")] * 6 for _ in range(6)]
        self.assertEqual(assignments(six), judged_assignments(six))
        for matrix in ([[r("1/7")] * 7] * 7, [[]] * 7, [[ONE]] * 8):
            with self.assertRaises(TooLarge) as caught:
                assignments(matrix)
            self.assertEqual(caught.exception.limit, "size")


if __name__ == "__main__":
    unittest.main()
