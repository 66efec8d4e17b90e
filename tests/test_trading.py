"""Points 72 and 73: top trading cycles, and groups that object."""

import copy
import itertools
import unittest

from tests.kit import seeded
from unbent.errors import InvalidWishes, TooLarge
from unbent.trading import objecting, trade


class Examples(unittest.TestCase):
    def test_of_the_interface(self):
        self.assertEqual(trade([[1, 0, 2], [0, 1, 2], [0, 1, 2]]), [1, 0, 2])
        self.assertEqual(objecting([[1, 0, 2], [0, 1, 2], [0, 1, 2]], [0, 1, 2]), [0, 1])


def some_wishes(source, many):
    return [source.sample(range(many), many) for _ in range(many)]


def judged_objecting(wishes, assignment):
    for number in range(2 ** len(wishes)):
        group = [agent for agent in range(len(wishes)) if number >> agent & 1]
        for things in itertools.permutations(group):
            steps = [wishes[agent].index(assignment[agent]) - wishes[agent].index(thing)
                     for agent, thing in zip(group, things)]
            if all(step >= 0 for step in steps) and any(step > 0 for step in steps):
                return group
    return None


class Trading(unittest.TestCase):
    def test_one_agent(self):
        self.assertEqual(trade([]), [])
        self.assertEqual(trade([[0]]), [0])

    def test_cycles_of_one_and_of_several_agents(self):
        # 0 and 1 change, 2 keeps its own, 3, 4 and 5 pass theirs on: all in the first round.
        wishes = [[1, 0, 2, 3, 4, 5], [0, 1, 2, 3, 4, 5], [2, 0, 1, 3, 4, 5],
                  [4, 0, 1, 2, 3, 5], [5, 0, 1, 2, 3, 4], [3, 0, 1, 2, 4, 5]]
        self.assertEqual(trade(wishes), [1, 0, 2, 4, 5, 3])

    def test_several_rounds(self):
        # All want 0, which 0 keeps; then all want 1, and so on.
        self.assertEqual(trade([[0, 1, 2, 3]] * 4), [0, 1, 2, 3])
        # 1 wants 0 and has to wait; 0 and 3 change; then 1 and 2 change.
        self.assertEqual(trade([[3, 0, 1, 2], [0, 2, 1, 3], [0, 3, 1, 2], [0, 1, 2, 3]]), [3, 2, 1, 0])

    def test_every_list_of_three(self):
        # Nobody objects to the result, and some group objects to every other assignment.
        for wishes in itertools.product(list(map(list, itertools.permutations(range(3)))), repeat=3):
            wishes = list(wishes)
            result = trade(wishes)
            for assignment in itertools.permutations(range(3)):
                self.assertIs(objecting(wishes, list(assignment)) is None, list(assignment) == result)
                self.assertIs(judged_objecting(wishes, assignment) is None, list(assignment) == result)

    def test_larger_ones(self):
        source = seeded(1501)
        for _ in range(60):
            wishes = some_wishes(source, source.randint(4, 5))
            before = copy.deepcopy(wishes)
            result = trade(wishes)
            self.assertEqual(sorted(result), list(range(len(wishes))))
            self.assertIsNone(judged_objecting(wishes, result))
            self.assertEqual(wishes, before)

    def test_no_other_list_helps(self):
        source = seeded(1502)
        for _ in range(40):
            wishes = some_wishes(source, 4)
            result = trade(wishes)
            for agent, own in enumerate(wishes):
                for line in itertools.permutations(range(4)):
                    other = trade([*wishes[:agent], list(line), *wishes[agent + 1:]])
                    self.assertLessEqual(own.index(result[agent]), own.index(other[agent]))

    def test_no_lists_of_a_group_help(self):
        source = seeded(1503)
        for _ in range(6):
            wishes = some_wishes(source, 3)
            result = trade(wishes)
            lists = list(map(list, itertools.permutations(range(3))))
            for told in itertools.product(lists, repeat=3):
                other = trade(list(told))
                liars = [agent for agent in range(3) if told[agent] != wishes[agent]]
                steps = [wishes[agent].index(result[agent]) - wishes[agent].index(other[agent]) for agent in liars]
                self.assertFalse(all(step >= 0 for step in steps) and any(step > 0 for step in steps))

    def test_eight_agents(self):
        source = seeded(1504)
        for _ in range(5):
            wishes = some_wishes(source, 8)
            self.assertIsNone(objecting(wishes, trade(wishes)))


class Objecting(unittest.TestCase):
    def test_against_all_groups(self):
        source = seeded(1505)
        found = []
        for _ in range(1200):
            wishes = some_wishes(source, source.randint(1, 5))
            assignment = source.sample(range(len(wishes)), len(wishes))
            if source.random() < 0.5:
                assignment = trade(wishes)
                first, second = source.randrange(len(wishes)), source.randrange(len(wishes))
                assignment[first], assignment[second] = assignment[second], assignment[first]
            before = copy.deepcopy((wishes, assignment))
            answer = objecting(wishes, assignment)
            self.assertEqual(answer, judged_objecting(wishes, assignment))
            self.assertEqual((wishes, assignment), before)
            found.append(0 if answer is None else len(answer))
        for size in (0, 1, 2, 3):
            self.assertGreater(found.count(size), 3, size)

    def test_an_agent_alone(self):
        # Agent 1 has less than its own thing.
        self.assertEqual(objecting([[0, 1, 2], [1, 0, 2], [2, 1, 0]], [0, 2, 1]), [1])

    def test_a_member_may_be_as_well_off(self):
        # Agent 2 has the best thing already, but without it 0 and 1 cannot pass theirs on.
        self.assertEqual(objecting([[1, 2, 0], [2, 1, 0], [0, 1, 2]], [2, 1, 0]), [0, 1, 2])
        # It is not enough that each of them has what it has in the assignment.
        self.assertIsNone(objecting([[1, 2, 0], [2, 1, 0], [0, 1, 2]], [1, 2, 0]))

    def test_the_order_of_the_groups(self):
        # Both pairs could change; the group of 0 and 1 has the least index.
        wishes = [[1, 0, 2, 3], [0, 1, 2, 3], [3, 0, 1, 2], [2, 0, 1, 3]]
        self.assertEqual(objecting(wishes, [0, 1, 2, 3]), [0, 1])
        self.assertEqual(objecting(wishes, [1, 0, 2, 3]), [2, 3])
        # Agent 2 alone (4) comes before 0 and 3 (9), and 0 with 1 (3) before 2 alone.
        wishes = [[3, 0, 1, 2], [1, 0, 2, 3], [2, 0, 1, 3], [0, 1, 2, 3]]
        self.assertEqual(objecting(wishes, [0, 1, 3, 2]), [2])
        wishes = [[1, 0, 2, 3], [0, 1, 2, 3], [2, 0, 1, 3], [0, 1, 2, 3]]
        self.assertEqual(objecting(wishes, [0, 1, 3, 2]), [0, 1])

    def test_nobody(self):
        self.assertIsNone(objecting([], []))
        self.assertIsNone(objecting([[0]], [0]))


class Faults(unittest.TestCase):
    def refuse(self, wishes, assignment):
        for call in (lambda: trade(wishes), lambda: objecting(wishes, assignment)):
            with self.assertRaises(InvalidWishes) as caught:
                call()
            self.assertEqual(caught.exception.reason, "list")

    def test_lists(self):
        for line in ([], [0], [1], [0, 0], [0, 1, 1], [0, -1], [0, 2], [0, 1, 2], [-1, 0, 1]):
            self.refuse([line, [0, 1]], [0, 1])
            self.refuse([[0, 1], line], [0, 1])

    def test_assignments(self):
        wishes = [[0, 1], [0, 1]]
        for assignment in ([], [0], [0, 0], [0, 2], [-1, 0], [0, 1, 1], [0, 1, 2]):
            with self.assertRaises(InvalidWishes) as caught:
                objecting(wishes, assignment)
            self.assertEqual(caught.exception.reason, "list")

    def test_limits(self):
        self.assertEqual(trade([list(range(8))] * 8), list(range(8)))
        for wishes in ([list(range(9))] * 9, [[]] * 9, [[0, 0]] * 9):
            for call in (lambda: trade(wishes), lambda: objecting(wishes, [0])):
                with self.assertRaises(TooLarge) as caught:
                    call()
                self.assertEqual(caught.exception.limit, "size")


if __name__ == "__main__":
    unittest.main()
