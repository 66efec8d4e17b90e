"""Points 76 to 78: medians, and shared costs."""

import copy
import itertools
import unittest
from fractions import Fraction

from tests.kit import ONE, ZERO, plain, plains, r, rs, seeded
from unbent.errors import InvalidCosts, InvalidWishes, TooLarge
from unbent.sharing import charge, median, share


class Examples(unittest.TestCase):
    def test_of_the_interface(self):
        self.assertEqual(median([1, 9, 4], [0, 10]), 4)
        self.assertEqual(charge([(0, 1), (4, 1), (4, 1), (6, 1)], [(2, 1), (5, 1)]), ([1], [(0, 1), (4, 1)]))


class Medians(unittest.TestCase):
    def test_written_out(self):
        self.assertEqual(median([7], []), 7)
        self.assertEqual(median([-5, 3], [0]), 0)
        self.assertEqual(median([-5, -9], [-7]), -7)
        self.assertEqual(median([4, 4, 4], [0, 9]), 4)
        self.assertEqual(median([10 ** 30, -10 ** 30, 10 ** 29], [10 ** 31, -1]), 10 ** 29)
        self.assertEqual(median([3, 2, 1], [100, 100]), 3)
        self.assertEqual(median([3, 2, 1], [-100, -100]), 1)

    def test_another_peak_does_not_help(self):
        source = seeded(1701)
        for _ in range(300):
            many = source.randint(1, 5)
            peaks = [source.randint(-6, 6) for _ in range(many)]
            phantoms = [source.randint(-6, 6) for _ in range(many - 1)]
            before = list(peaks), list(phantoms)
            found = median(peaks, phantoms)
            self.assertEqual(found, sorted(peaks + phantoms)[many - 1])
            for agent, peak in enumerate(peaks):
                other = median([*peaks[:agent], source.randint(-9, 9), *peaks[agent + 1:]], phantoms)
                self.assertTrue(min(peak, other) <= found <= max(peak, other))
            self.assertEqual((peaks, phantoms), before)

    def test_faults(self):
        for peaks, phantoms in (([], []), ([], [1]), ([1], [1]), ([1, 2], []), ([1, 2], [1, 2]), ([1, 2, 3], [1])):
            with self.assertRaises(InvalidWishes) as caught:
                median(peaks, phantoms)
            self.assertEqual(caught.exception.reason, "list")

    def test_limits(self):
        self.assertEqual(median(list(range(1000)), [0] * 999), 0)
        for phantoms in ([0] * 1000, []):
            with self.assertRaises(TooLarge) as caught:
                median([0] * 1001, phantoms)
            self.assertEqual(caught.exception.limit, "size")


def members(group):
    return [agent for agent in range(8) if group >> agent & 1]


def judged_share(costs, group, agent):
    amounts = []
    for order in itertools.permutations(members(group)):
        before = sum(2 ** other for other in order[:order.index(agent)])
        amounts.append(plain(costs[before + 2 ** agent]) - plain(costs[before]))
    return sum(amounts) / len(amounts)


def some_costs(source, many):
    """Costs of many agents: what a group must have is paid for once, and each thing serves some agents."""
    things = [(source.randrange(2 ** many), Fraction(source.randint(0, 6), source.choice((1, 2)))) for _ in range(4)]
    rest = Fraction(source.randint(0, 3))
    costs = []
    for group in range(2 ** many):
        size = len(members(group))
        costs.append(sum((cost for served, cost in things if served & group), rest * (3 * size - size * (size - 1) // 2)
                         if size < 4 else rest * 6))
    return [r(cost) for cost in costs]


def judged_costs(costs, many):
    if len(costs) != 2 ** many or plain(costs[0]) != 0:
        return False
    amounts = plains(costs)
    pairs = list(itertools.product(range(2 ** many), repeat=2))
    return (all(amounts[a] >= amounts[b] for a, b in pairs if a & b == b)
            and all(amounts[a | b] + amounts[a & b] <= amounts[a] + amounts[b] for a, b in pairs))


def judged_charge(costs, bids):
    served = list(range(len(bids)))
    while True:
        group = sum(2 ** agent for agent in served)
        staying = [agent for agent in served if plain(bids[agent]) >= judged_share(costs, group, agent)]
        if staying == served:
            break
        served = staying
    return served, [r(judged_share(costs, group, agent)) if agent in served else ZERO for agent in range(len(bids))]


class Shares(unittest.TestCase):
    costs = rs(0, 4, 6, 7, 3, 6, 7, 8)

    def test_written_out(self):
        self.assertEqual(share(self.costs, 1, 0), r(4))
        self.assertEqual(share(self.costs, 3, 0), r("5/2"))
        self.assertEqual(share(self.costs, 3, 1), r("9/2"))
        # The orders of the three: 4, 4, 1, 1, 3 and 1 are what agent 0 adds.
        self.assertEqual(share(self.costs, 7, 0), r("14/6"))
        self.assertEqual(share(rs(0, 5), 1, 0), r(5))

    def test_against_all_orders(self):
        source = seeded(1702)
        for at in range(60):
            many = 6 if at < 2 else source.randint(1, 5)
            costs = some_costs(source, many)
            before = list(costs)
            for group in range(1, 2 ** many):
                if many < 5 or source.random() < 0.1:
                    shares = [share(costs, group, agent) for agent in members(group)]
                    self.assertEqual(plains(shares), [judged_share(costs, group, agent) for agent in members(group)])
                    self.assertEqual(sum(plains(shares)), plain(costs[group]))
            self.assertEqual(costs, before)

    def test_limits(self):
        self.assertEqual(share([r(len(members(group))) for group in range(64)], 63, 5), ONE)
        with self.assertRaises(TooLarge) as caught:
            share([ZERO] * 128, 1, 0)
        self.assertEqual(caught.exception.limit, "size")


class Charges(unittest.TestCase):
    def test_written_out(self):
        costs = rs(0, 4, 4, 6)
        self.assertEqual(charge(costs, rs(3, 3)), ([0, 1], rs(3, 3)))
        self.assertEqual(charge(costs, rs("299/100", 3)), ([], rs(0, 0)))
        self.assertEqual(charge(costs, rs(2, 4)), ([1], rs(0, 4)))
        self.assertEqual(charge(costs, rs(-7, 9)), ([1], rs(0, 4)))
        self.assertEqual(charge([ZERO], []), ([], []))
        self.assertEqual(charge(rs(0, 5), rs(5)), ([0], rs(5)))
        self.assertEqual(charge(rs(0, 5), rs("499/100")), ([], rs(0)))
        self.assertEqual(charge(rs(0, 0), rs(0)), ([0], rs(0)))
        self.assertEqual(charge(rs(0, 0), rs(-1)), ([], rs(0)))

    def test_all_below_their_share_leave_together(self):
        # The share of each of three is 2: 0 and 1 leave at once, and 2 alone has to pay 6.
        costs = [r(6 if group else 0) for group in range(8)]
        self.assertEqual(charge(costs, rs(1, 1, 5)), ([], rs(0, 0, 0)))
        self.assertEqual(charge(costs, rs(1, 1, 6)), ([2], rs(0, 0, 6)))
        # With one after another, 1 would leave first, and then 0.
        self.assertEqual(charge(costs, rs(3, 1, 3)), ([0, 2], rs(3, 0, 3)))
        self.assertEqual(charge(costs, rs(3, 1, "5/2")), ([], rs(0, 0, 0)))

    def test_at_random(self):
        source = seeded(1703)
        sizes = []
        for _ in range(300):
            many = source.randint(0, 4)
            costs = some_costs(source, many)
            self.assertTrue(judged_costs(costs, many))
            shares = [judged_share(costs, 2 ** many - 1, agent) for agent in range(many)]
            bids = [r(share + source.choice((0, 1, 5, -1, Fraction(1, 3)))) for share in shares]
            before = copy.deepcopy((costs, bids))
            served, paid = charge(costs, bids)
            self.assertEqual((served, paid), judged_charge(costs, bids))
            self.assertEqual(sum(plains(paid)), plain(costs[sum(2 ** agent for agent in served)]))
            for bid, amount in zip(plains(bids), plains(paid)):
                self.assertGreaterEqual(amount, 0)
                if bid >= 0:
                    self.assertLessEqual(amount, bid)
            self.assertEqual((costs, bids), before)
            sizes.append((many, len(served)))
        for pair in ((2, 0), (2, 1), (2, 2), (3, 0), (3, 1), (3, 2), (3, 3)):
            self.assertGreater(sizes.count(pair), 1, pair)

    def test_six_agents(self):
        source = seeded(1704)
        for _ in range(2):
            costs = some_costs(source, 6)
            bids = [r(judged_share(costs, 63, agent) + source.choice((0, 1, -1))) for agent in range(6)]
            self.assertEqual(charge(costs, bids), judged_charge(costs, bids))

    def outcome(self, costs, bids, values):
        served, paid = charge(costs, bids)
        return [plain(values[agent]) - plain(paid[agent]) if agent in served else 0 for agent in range(len(bids))]

    def test_no_other_bids_help(self):
        source = seeded(1705)
        for _ in range(40):
            costs = some_costs(source, 3)
            values = [r(judged_share(costs, 7, agent) + source.randint(-2, 3)) for agent in range(3)]
            honest = self.outcome(costs, values, values)
            for _ in range(20):
                liars = source.sample(range(3), source.randint(1, 3))
                bids = list(values)
                for agent in liars:
                    bids[agent] = r(plain(values[agent]) + source.randint(-3, 3))
                steps = [after - before for after, before in zip(self.outcome(costs, bids, values), honest)]
                self.assertFalse(all(steps[agent] >= 0 for agent in liars) and any(steps[agent] > 0 for agent in liars))
                if len(liars) == 1:
                    self.assertLessEqual(steps[liars[0]], 0)


class CostFaults(unittest.TestCase):
    def refuse(self, costs, many):
        self.assertFalse(judged_costs(costs, many))
        with self.assertRaises(InvalidCosts):
            charge(costs, [ONE] * many)

    def test_lengths(self):
        for costs, many in ((rs(), 0), (rs(0, 1), 0), (rs(0), 1), (rs(0, 1, 1), 2), (rs(0, 1), 2), (rs(0, 1, 1, 2, 2), 2),
                            (rs(0, 1, 1, 2), 3), (rs(0, 1, 1, 2), 1)):
            self.refuse(costs, many)

    def test_the_empty_group(self):
        self.refuse(rs(1), 0)
        self.refuse(rs("1/2", 1), 1)
        self.refuse(rs(-1, 1), 1)
        self.refuse(rs(1, 1, 1, 1), 2)

    def test_a_group_that_costs_less_than_one_within_it(self):
        self.refuse(rs(0, -1), 1)
        self.refuse(rs(0, 3, 1, 2), 2)
        self.refuse(rs(0, 1, 3, 2), 2)
        self.refuse(rs(0, 5, 5, 7, 5, 7, 7, 6), 3)

    def test_a_union_that_costs_too_much(self):
        self.refuse(rs(0, 1, 1, 3), 2)
        self.assertEqual(charge(rs(0, 1, 1, 2), rs(1, 1)), ([0, 1], rs(1, 1)))
        # Only the whole group costs too much, beside two that overlap.
        self.refuse(rs(0, 3, 3, 4, 3, 4, 4, 6), 3)
        self.assertEqual(charge(rs(0, 3, 3, 4, 3, 4, 4, 5), rs(9, 9, 9))[0], [0, 1, 2])

    def test_each_fault_at_random(self):
        source = seeded(1706)
        found = []
        for _ in range(400):
            many = source.randint(1, 3)
            costs = some_costs(source, many)
            at = source.randrange(len(costs))
            costs[at] = r(plain(costs[at]) + source.choice((-1, 1, Fraction(1, 2), Fraction(-1, 2), 0)))
            good = judged_costs(costs, many)
            if good:
                charge(costs, [ONE] * many)
            else:
                self.refuse(costs, many)
            found.append(good)
        self.assertGreater(found.count(True), 50)
        self.assertGreater(found.count(False), 50)

    def test_limits(self):
        costs = [r(len(members(group))) for group in range(64)]
        self.assertEqual(charge(costs, [ONE] * 6), (list(range(6)), [ONE] * 6))
        # The number of bids comes ahead of costs that are wrong.
        for wrong in ([ZERO] * 128, [], [ONE]):
            with self.assertRaises(TooLarge) as caught:
                charge(wrong, [ONE] * 7)
            self.assertEqual(caught.exception.limit, "size")


if __name__ == "__main__":
    unittest.main()
