"""Points 69 to 71: wish lists, stable matchings and deferred acceptance."""

import copy
import itertools
import unittest

from tests.kit import seeded
from unbent.errors import InvalidWishes, TooLarge
from unbent.matching import accept, blocking


class Examples(unittest.TestCase):
    def test_of_the_interface(self):
        self.assertEqual(accept([[0, 1], [0, 1]], [[1, 0], [1, 0]]), [1, 0])
        self.assertEqual(blocking([[0, 1], [0, 1]], [[1, 0], [1, 0]], [0, 1]), (1, 0))


def prefers(wishes, thing, other):
    """Listed things in their order, then nothing, then the others."""
    order = [*wishes, None]
    if thing not in order:
        return False
    return other not in order or order.index(thing) < order.index(other)


def judged_blocking(proposers, receivers, matching):
    for p, own in enumerate(matching):
        if own is not None and (own not in proposers[p] or p not in receivers[own]):
            return p, None
        for r in range(len(receivers)):
            holder = matching.index(r) if r in matching else None
            if own != r and prefers(proposers[p], r, own) and prefers(receivers[r], p, holder):
                return p, r
    return None


def all_matchings(many, receivers):
    for matching in itertools.product([None, *range(receivers)], repeat=many):
        matched = [r for r in matching if r is not None]
        if len(set(matched)) == len(matched):
            yield list(matching)


def stable_matchings(proposers, receivers):
    return [matching for matching in all_matchings(len(proposers), len(receivers))
            if judged_blocking(proposers, receivers, matching) is None]


def some_wishes(source, many, things):
    return [source.sample(range(things), source.randint(things // 2, things)) for _ in range(many)]


def all_lists(things):
    return [list(line) for size in range(things + 1) for line in itertools.permutations(range(things), size)]


class Accepting(unittest.TestCase):
    def test_against_all_stable_matchings(self):
        source = seeded(1401)
        several = 0
        for at in range(250):
            many, others = source.randint(0, 4), source.randint(0, 4)
            proposers, receivers = some_wishes(source, many, others), some_wishes(source, others, many)
            if at < 60:
                # With total lists there is often more than one stable matching.
                proposers, receivers = [[source.sample(range(4), 4) for _ in range(4)] for _ in range(2)]
            before = copy.deepcopy((proposers, receivers))
            found = accept(proposers, receivers)
            stable = stable_matchings(proposers, receivers)
            self.assertIn(found, stable)
            for other in stable:
                for p, wishes in enumerate(proposers):
                    self.assertFalse(prefers(wishes, other[p], found[p]))
                self.assertEqual([r is None for r in other], [r is None for r in found])
                self.assertEqual(sorted(r for r in other if r is not None), sorted(r for r in found if r is not None))
            several += len(stable) > 1
            self.assertEqual((proposers, receivers), before)
        self.assertGreater(several, 10)

    def test_the_proposers_are_served_best(self):
        # Both matchings are stable; the proposers have their first wishes.
        proposers, receivers = [[0, 1], [1, 0]], [[1, 0], [0, 1]]
        self.assertEqual(accept(proposers, receivers), [0, 1])
        self.assertEqual(accept(receivers, proposers), [1, 0])
        self.assertEqual(len(stable_matchings(proposers, receivers)), 2)

    def test_a_chain_of_rejections(self):
        proposers = [[0, 1, 2, 3], [0, 1, 2, 3], [0, 1, 2, 3], [0, 1, 2, 3]]
        self.assertEqual(accept(proposers, [[3, 2, 1, 0]] * 4), [3, 2, 1, 0])
        self.assertEqual(accept(proposers, [[0, 1, 2, 3]] * 4), [0, 1, 2, 3])

    def test_unequal_numbers(self):
        self.assertEqual(accept([], []), [])
        self.assertEqual(accept([], [[], []]), [])
        self.assertEqual(accept([[], []], []), [None, None])
        self.assertEqual(accept([[0], [0], [0]], [[2, 1]]), [None, None, 0])
        self.assertEqual(accept([[2, 0]], [[0], [], [0]]), [2])
        self.assertEqual(accept([[1, 0]], [[0], [], [0]]), [0])

    def test_empty_lists(self):
        self.assertEqual(accept([[], [0, 1]], [[0, 1], [0, 1]]), [None, 0])
        self.assertEqual(accept([[0, 1], [0, 1]], [[], []]), [None, None])
        self.assertEqual(accept([[0], [1]], [[1], [0]]), [None, None])

    def test_no_other_wish_list_helps(self):
        source = seeded(1402)
        for _ in range(40):
            many, others = source.randint(1, 4), source.randint(1, 3)
            proposers, receivers = some_wishes(source, many, others), some_wishes(source, others, many)
            found = accept(proposers, receivers)
            for p, wishes in enumerate(proposers):
                for line in all_lists(others):
                    other = accept([*proposers[:p], line, *proposers[p + 1:]], receivers)
                    self.assertFalse(prefers(wishes, other[p], found[p]))

    def test_eight_on_each_side(self):
        source = seeded(1403)
        for _ in range(20):
            proposers, receivers = some_wishes(source, 8, 8), some_wishes(source, 8, 8)
            found = accept(proposers, receivers)
            self.assertIsNone(blocking(proposers, receivers, found))


class Blocking(unittest.TestCase):
    def test_against_all_pairs(self):
        source = seeded(1404)
        found = []
        for _ in range(60):
            many, others = source.randint(0, 3), source.randint(0, 3)
            proposers, receivers = some_wishes(source, many, others), some_wishes(source, others, many)
            before = copy.deepcopy((proposers, receivers))
            for matching in all_matchings(many, others):
                given = list(matching)
                answer = blocking(proposers, receivers, given)
                self.assertEqual(answer, judged_blocking(proposers, receivers, matching))
                self.assertEqual(given, matching)
                found.append("stable" if answer is None else "willing" if answer[1] is None else "pair")
            self.assertEqual((proposers, receivers), before)
        for word in ("stable", "willing", "pair"):
            self.assertGreater(found.count(word), 50, word)

    def test_not_willing(self):
        self.assertEqual(blocking([[0], []], [[0, 1], []], [None, 0]), (0, 0))
        self.assertEqual(blocking([[]], [[0]], [0]), (0, None))
        self.assertEqual(blocking([[0]], [[]], [0]), (0, None))
        self.assertEqual(blocking([[0, 1], [1]], [[1], [0]], [None, 1]), (0, 1))
        self.assertEqual(blocking([[1, 0], [1]], [[0], [0]], [0, 1]), (0, 1))
        self.assertEqual(blocking([[0], [1]], [[0], [0]], [0, 1]), (1, None))

    def test_an_unwilling_pair_comes_before_a_pair_that_blocks(self):
        # Proposer 0 does not want receiver 1, and would also block with receiver 0.
        self.assertEqual(blocking([[0]], [[0], [0]], [1]), (0, None))

    def test_the_order_of_the_pairs(self):
        # Proposer 1 blocks with 2 and with 1; proposer 0 with nobody.
        proposers, receivers = [[0], [2, 1]], [[0], [1], [1]]
        self.assertEqual(blocking(proposers, receivers, [0, None]), (1, 1))
        self.assertEqual(blocking(proposers, receivers, [None, None]), (0, 0))
        self.assertEqual(blocking(proposers, receivers, [0, 1]), (1, 2))
        self.assertIsNone(blocking(proposers, receivers, [0, 2]))

    def test_both_must_prefer(self):
        proposers, receivers = [[0, 1], [0, 1]], [[0, 1], [0, 1]]
        self.assertIsNone(blocking(proposers, receivers, [0, 1]))
        self.assertEqual(blocking(proposers, receivers, [1, 0]), (0, 0))
        self.assertEqual(blocking(proposers, receivers, [None, 0]), (0, 0))
        self.assertEqual(blocking(proposers, receivers, [0, None]), (1, 1))

    def test_nobody(self):
        self.assertIsNone(blocking([], [], []))
        self.assertIsNone(blocking([], [[], []], []))
        self.assertIsNone(blocking([[], []], [], [None, None]))


class Faults(unittest.TestCase):
    def refuse(self, proposers, receivers, matching=None):
        for call in (lambda: accept(proposers, receivers),
                     lambda: blocking(proposers, receivers, matching or [None] * len(proposers))):
            with self.assertRaises(InvalidWishes) as caught:
                call()
            self.assertEqual(caught.exception.reason, "list")

    def test_lists(self):
        for line in ([0, 0], [1, 0, 1], [-1], [0, -1], [2], [0, 2]):
            self.refuse([line, []], [[], []])
            self.refuse([[], line], [[], []])
            self.refuse([[], []], [line, []])
            self.refuse([[], []], [[], line])
        # A receiver's list is over the proposers, and the other way round.
        self.refuse([[1]], [[0]])
        self.refuse([[0]], [[1]])
        accept([[1]], [[], [0]])
        accept([[], [0]], [[1]])

    def test_matchings(self):
        proposers, receivers = [[0, 1], [0, 1]], [[0, 1], [0, 1], []]
        for matching in ([], [0], [0, 1, None], [0, 0], [3, 0], [-1, 0], [None, 3], [1, -1]):
            with self.assertRaises(InvalidWishes) as caught:
                blocking(proposers, receivers, matching)
            self.assertEqual(caught.exception.reason, "list")
        self.assertEqual(blocking(proposers, receivers, [None, 2]), (0, 0))

    def test_limits(self):
        eight, nine = [[] for _ in range(8)], [[] for _ in range(9)]
        accept(eight, eight)
        blocking(eight, eight, [None] * 8)
        for pair in ((nine, eight), (eight, nine), (nine, []), ([], nine)):
            # The size comes ahead of lists that are wrong.
            wrong = [[0, 0, -1]] + pair[0][1:], [[77]] + pair[1][1:]
            for proposers, receivers in (pair, wrong if pair[0] and pair[1] else pair):
                for call in (lambda: accept(proposers, receivers), lambda: blocking(proposers, receivers, [5, 5, 5])):
                    with self.assertRaises(TooLarge) as caught:
                        call()
                    self.assertEqual(caught.exception.limit, "size")


if __name__ == "__main__":
    unittest.main()
