"""Points 57 to 60: menus, their honest payments, cycles and spreads."""

import copy
import itertools
import unittest
from fractions import Fraction

from tests.kit import ONE, ZERO, plain, plains, r, rs, seeded, some_ratio
from unbent.errors import InvalidMenu, NotHonest, TooLarge
from unbent.menus import cycle_gain, gain_from, highest_payments, is_honest, spread

WORTHS = [[(0, 1), (1, 1)], [(0, 1), (3, 1)]]
LOTS = [[(1, 1), (0, 1)], [(0, 1), (1, 1)]]


class Examples(unittest.TestCase):
    def test_of_the_interface(self):
        self.assertEqual(highest_payments(WORTHS, LOTS), ("payments", [(0, 1), (3, 1)]))
        self.assertEqual(spread(WORTHS, LOTS, 0, 1), ((1, 1), (3, 1)))
        self.assertEqual(highest_payments([[(0, 1), (3, 1)], [(0, 1), (1, 1)]], LOTS)[0], "cycle")


def judged_gain(worths, lots, kind, other):
    own = sum(a * b for a, b in zip(plains(worths[kind]), plains(lots[kind])))
    return sum(a * b for a, b in zip(plains(worths[kind]), plains(lots[other]))) - own


def judged_cycles(worths, lots):
    """The gain of each cycle, beginning with its least kind."""
    kinds = range(len(worths))
    gains = {(a, b): judged_gain(worths, lots, a, b) for a in kinds for b in kinds}
    for size in range(1, len(worths) + 1):
        for cycle in itertools.permutations(kinds, size):
            if cycle[0] == min(cycle):
                yield cycle, sum(gains[pair] for pair in zip(cycle, cycle[1:] + cycle[:1]))


def judged_chain(worths, lots, first, last):
    """The greatest sum of gains along a chain of different kinds."""
    if first == last:
        return Fraction(0)
    rest = [kind for kind in range(len(worths)) if kind not in (first, last)]
    sums = []
    for size in range(len(rest) + 1):
        for middle in itertools.permutations(rest, size):
            chain = (first, *middle, last)
            sums.append(sum(judged_gain(worths, lots, a, b) for a, b in zip(chain, chain[1:])))
    return max(sums)


def some_menu(source, most=5, honest=False):
    """A random menu; the lots of an honest one are those that each kind likes best of several."""
    kinds, outcomes = source.randint(1, most), source.randint(1, 4)
    worths = [[some_ratio(source) for _ in range(outcomes)] for _ in range(kinds)]
    lots = [[some_ratio(source, 2) for _ in range(outcomes)] for _ in range(kinds)]
    if honest:
        prices = [Fraction(source.randint(-4, 4)) for _ in lots]
        chosen = []
        for line in worths:
            amounts = [sum(a * b for a, b in zip(plains(line), plains(lot))) - price
                       for lot, price in zip(lots, prices)]
            chosen.append(list(lots[amounts.index(max(amounts))]))
        lots = chosen
    return worths, lots


class Gains(unittest.TestCase):
    def test_gains(self):
        self.assertEqual(gain_from(WORTHS, LOTS, 0, 1), r(1))
        self.assertEqual(gain_from(WORTHS, LOTS, 1, 0), r(-3))
        self.assertEqual(gain_from(WORTHS, LOTS, 1, 1), ZERO)
        # The chances may be any fractions.
        self.assertEqual(gain_from([rs("1/2", -3), rs(7, 7)], [rs(-2, 5), rs("1/3", 4)], 0, 1), r("25/6"))
        source = seeded(1001)
        for _ in range(100):
            worths, lots = some_menu(source)
            before = copy.deepcopy((worths, lots))
            for kind, other in itertools.product(range(len(worths)), repeat=2):
                self.assertEqual(plain(gain_from(worths, lots, kind, other)), judged_gain(worths, lots, kind, other))
            self.assertEqual((worths, lots), before)

    def test_cycles(self):
        self.assertEqual(cycle_gain(WORTHS, LOTS, [0, 1]), r(-2))
        self.assertEqual(cycle_gain(WORTHS, LOTS, [1, 0]), r(-2))
        self.assertEqual(cycle_gain(WORTHS, LOTS, [1]), ZERO)
        source = seeded(1002)
        for _ in range(40):
            worths, lots = some_menu(source, 4)
            for cycle, amount in judged_cycles(worths, lots):
                given = list(cycle)
                self.assertEqual(plain(cycle_gain(worths, lots, given)), amount)
                self.assertEqual(given, list(cycle))
                self.assertEqual(plain(cycle_gain(worths, lots, given[1:] + given[:1])), amount)


class Honest(unittest.TestCase):
    def test_each_pair(self):
        self.assertTrue(is_honest(WORTHS, LOTS, rs(0, 1)))
        self.assertTrue(is_honest(WORTHS, LOTS, rs(0, 3)))
        self.assertFalse(is_honest(WORTHS, LOTS, rs(0, "99/100")))
        self.assertFalse(is_honest(WORTHS, LOTS, rs(0, "301/100")))

    def test_lists_that_are_no_payments(self):
        for payments in ([], rs(0), rs(0, 2, 2), rs(1, 3), rs(-1, 1)):
            self.assertIs(is_honest(WORTHS, LOTS, payments), False)
        self.assertIs(is_honest([[ONE]], [[ONE]], [ZERO]), True)
        self.assertIs(is_honest([[ONE]], [[ONE]], [ONE]), False)

    def test_at_random(self):
        source = seeded(1003)
        found = []
        for at in range(300):
            worths, lots = some_menu(source, 3, honest=at % 2 == 0)
            payments = [ZERO] + [some_ratio(source, 6) for _ in worths[1:]]
            kept = copy.deepcopy((worths, lots, payments))
            pairs = itertools.product(range(len(worths)), repeat=2)
            honest = all(judged_gain(worths, lots, i, j) <= plain(payments[j]) - plain(payments[i]) for i, j in pairs)
            self.assertIs(is_honest(worths, lots, payments), honest)
            self.assertEqual((worths, lots, payments), kept)
            found.append(honest)
        self.assertGreater(found.count(True), 20)
        self.assertGreater(found.count(False), 20)


class Highest(unittest.TestCase):
    def check(self, worths, lots):
        before = copy.deepcopy((worths, lots))
        answer, items = highest_payments(worths, lots)
        gains = dict(judged_cycles(worths, lots))
        if max(gains.values()) > 0:
            self.assertEqual(answer, "cycle")
            self.assertEqual(len(set(items)), len(items))
            self.assertGreater(plain(cycle_gain(worths, lots, items)), 0)
            least = items.index(min(items))
            self.assertGreater(gains[tuple(items[least:] + items[:least])], 0)
        else:
            self.assertEqual(answer, "payments")
            self.assertEqual(plains(items), [-judged_chain(worths, lots, kind, 0) for kind in range(len(worths))])
            self.assertTrue(is_honest(worths, lots, items))
        self.assertEqual((worths, lots), before)
        return answer

    def test_against_all_chains_and_cycles(self):
        source = seeded(1004)
        found = [self.check(*some_menu(source, 5, honest=at % 3 < 2)) for at in range(200)]
        self.assertGreater(found.count("payments"), 60)
        self.assertGreater(found.count("cycle"), 30)

    def test_no_honest_payments_ask_more(self):
        source = seeded(1005)
        for _ in range(60):
            worths, lots = some_menu(source, 4, honest=True)
            _, values = highest_payments(worths, lots)
            for kind in range(1, len(worths)):
                for more in (r(1, 1000), ONE):
                    raised = list(values)
                    raised[kind] = r(plain(values[kind]) + plain(more))
                    self.assertFalse(is_honest(worths, lots, raised))

    def test_one_kind(self):
        self.assertEqual(highest_payments([rs(5, 6)], [rs(1, 0)]), ("payments", [ZERO]))

    def test_chains_of_several_steps(self):
        # Each kind wants the next lot only: the payments add up along the chain.
        worths = [rs(3, 2, 0, 0), rs(0, 3, 2, 0), rs(0, 0, 3, 2), rs(0, 0, 0, 3)]
        lots = [rs(1, 0, 0, 0), rs(0, 1, 0, 0), rs(0, 0, 1, 0), rs(0, 0, 0, 1)]
        self.check(worths, lots)
        self.assertEqual(highest_payments(worths, lots)[1], rs(0, 3, 3, 3))
        worths = [rs(0, 0, 0), rs(1, 2, 0), rs(0, 3, 5)]
        self.check(worths, [rs(1, 0, 0), rs(0, 1, 0), rs(0, 0, 1)])
        self.assertEqual(highest_payments(worths, [rs(1, 0, 0), rs(0, 1, 0), rs(0, 0, 1)])[1], rs(0, 1, 3))

    def test_long_cycles(self):
        # Only the cycle through all kinds gains.
        for size in range(2, 7):
            worths = [[r(4 if o == (kind + 1) % size else 3 if o == kind else 0) for o in range(size)]
                      for kind in range(size)]
            lots = [[r(int(o == kind)) for o in range(size)] for kind in range(size)]
            answer, cycle = highest_payments(worths, lots)
            self.assertEqual((answer, sorted(cycle)), ("cycle", list(range(size))))
            self.assertEqual(cycle_gain(worths, lots, cycle), r(size))

    def test_a_cycle_without_kind_0(self):
        worths = [rs(9, 0, 0), rs(0, 1, 2), rs(0, 2, 1)]
        lots = [rs(1, 0, 0), rs(0, 1, 0), rs(0, 0, 1)]
        answer, cycle = highest_payments(worths, lots)
        self.assertEqual((answer, sorted(cycle)), ("cycle", [1, 2]))

    def test_a_cycle_of_gain_0(self):
        worths = [rs(1, 1), rs(1, 1)]
        self.assertEqual(highest_payments(worths, LOTS), ("payments", rs(0, 0)))


class Spreads(unittest.TestCase):
    def test_against_all_chains(self):
        source = seeded(1006)
        for _ in range(80):
            worths, lots = some_menu(source, 4, honest=True)
            before = copy.deepcopy((worths, lots))
            for i, j in itertools.product(range(len(worths)), repeat=2):
                found = spread(worths, lots, i, j)
                self.assertIsInstance(found, tuple)
                judged = judged_chain(worths, lots, i, j), -judged_chain(worths, lots, j, i)
                self.assertEqual((plain(found[0]), plain(found[1])), judged)
            self.assertEqual((worths, lots), before)

    def test_both_ends_are_reached(self):
        # The payments that a spread ends at can be honest, and none beyond can.
        source = seeded(1007)
        for _ in range(60):
            worths, lots = some_menu(source, 4, honest=True)
            for j in range(1, len(worths)):
                least, greatest = spread(worths, lots, 0, j)
                self.assertEqual(highest_payments(worths, lots)[1][j], greatest)
                lowest = [spread(worths, lots, 0, kind)[0] for kind in range(len(worths))]
                self.assertEqual(lowest[j], least)
                self.assertTrue(is_honest(worths, lots, lowest))
                lowest[j] = r(plain(least) - Fraction(1, 1000))
                self.assertFalse(is_honest(worths, lots, lowest))

    def test_a_kind_and_itself(self):
        self.assertEqual(spread(WORTHS, LOTS, 1, 1), (ZERO, ZERO))
        self.assertEqual(spread(WORTHS, LOTS, 1, 0), (r(-3), r(-1)))

    def test_no_honest_payments(self):
        for first, second in itertools.product((0, 1), repeat=2):
            with self.assertRaises(NotHonest):
                spread(WORTHS[::-1], LOTS, first, second)
        # Also if the cycle does not go through the two kinds.
        worths = [rs(9, 0, 0, 0), rs(0, 1, 2, 0), rs(0, 2, 1, 0), rs(0, 0, 0, 9)]
        lots = [[r(int(o == kind)) for o in range(4)] for kind in range(4)]
        with self.assertRaises(NotHonest):
            spread(worths, lots, 0, 3)


def calls(worths, lots):
    yield lambda: gain_from(worths, lots, 0, 0)
    yield lambda: is_honest(worths, lots, [ZERO] * len(worths))
    yield lambda: is_honest(worths, lots, [])
    yield lambda: highest_payments(worths, lots)
    yield lambda: cycle_gain(worths, lots, [0])
    yield lambda: spread(worths, lots, 0, 0)


def menu(kinds, outcomes):
    return [[ZERO] * outcomes for _ in range(kinds)], [[ONE] * outcomes for _ in range(kinds)]


class Faults(unittest.TestCase):
    def refuse(self, error, worths, lots):
        for call in calls(worths, lots):
            with self.assertRaises(error):
                call()

    def test_lists_that_do_not_fit_together(self):
        worths, lots = menu(2, 3)
        self.refuse(InvalidMenu, worths, lots[:1])
        self.refuse(InvalidMenu, worths[:1], lots)
        self.refuse(InvalidMenu, worths, lots + lots[:1])
        self.refuse(InvalidMenu, [worths[0], worths[1][:2]], lots)
        self.refuse(InvalidMenu, worths, [lots[0], lots[1] + [ONE]])
        self.refuse(InvalidMenu, worths, [lots[0][:2], lots[1][:2]])
        self.refuse(InvalidMenu, [[], []], [[], []])
        self.refuse(InvalidMenu, [], [])

    def test_limits(self):
        for call in (*calls(*menu(8, 6)), *calls(*menu(1, 1))):
            call()
        self.refuse(TooLarge, *menu(9, 6))
        self.refuse(TooLarge, *menu(8, 7))
        self.refuse(TooLarge, *menu(1, 7))

    def test_both_faults(self):
        worths, lots = menu(9, 7)
        self.refuse(InvalidMenu, worths, lots[:8])
        self.refuse(InvalidMenu, worths, [*lots[:8], lots[8][:6]])
        self.refuse(TooLarge, worths, lots)
        # A menu that is too large is refused before it is asked for honest payments.
        with self.assertRaises(TooLarge):
            spread(*menu(9, 1), 0, 1)

    def test_eight_kinds(self):
        source = seeded(1008)
        worths = [[r(source.randint(-9, 9)) for _ in range(6)] for _ in range(8)]
        lots = [list(worths[at]) for at in range(8)]
        answer, values = highest_payments(worths, lots)
        # Where each lot is its kind's own list of worths, no cycle gains.
        self.assertEqual(answer, "payments")
        self.assertTrue(is_honest(worths, lots, values))


if __name__ == "__main__":
    unittest.main()
