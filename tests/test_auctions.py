"""Points 64 to 67: auctions of one thing."""

import copy
import itertools
import unittest
from fractions import Fraction

from tests.kit import ZERO, entry_of, plain, plains, r, rs, seeded
from unbent.auctions import auction, bidders_game, ironed_values, virtual_values
from unbent.best import accepts, find
from unbent.errors import InvalidBidders
from unbent.games import Game, is_rule, profiles, same_game
from unbent.model import is_good
from unbent.rules import value


def bidder(name, values, weights=None):
    return name, rs(*values), rs(*(weights or [1] * len(values)))


class Examples(unittest.TestCase):
    def test_of_the_interface(self):
        self.assertEqual(virtual_values([(1, 1), (3, 1)], [(1, 1), (1, 1)]), [(-1, 1), (3, 1)])
        self.assertEqual(ironed_values([(1, 1), (2, 1), (3, 1)], [(1, 1), (1, 4), (1, 1)]), [(-3, 5), (-3, 5), (3, 1)])
        self.assertEqual(auction([("ann", [(1, 1), (3, 1)], [(1, 1), (1, 1)])]),
                         [([(1, 1), (0, 1)], [(0, 1)]), ([(0, 1), (1, 1)], [(3, 1)])])


def judged_virtual(values, weights):
    values, weights = plains(values), plains(weights)
    found = [value - (higher - value) * sum(weights[kind + 1:]) / weights[kind]
             for kind, (value, higher) in enumerate(zip(values, values[1:]))]
    return found + values[-1:]


def judged_ironed(values, weights, last=False):
    """Joins the leftmost pair of blocks that falls, or the rightmost one."""
    blocks = [[pair] for pair in zip(judged_virtual(values, weights), plains(weights))]

    def mean(block):
        return sum(value * weight for value, weight in block) / sum(weight for _, weight in block)

    while True:
        falls = [at for at in range(len(blocks) - 1) if mean(blocks[at]) > mean(blocks[at + 1])]
        if not falls:
            return [mean(block) for block in blocks for _ in block]
        at = falls[-1 if last else 0]
        blocks[at:at + 2] = [blocks[at] + blocks[at + 1]]


def some_bidder(source, name, most=4):
    many = source.randint(1, most)
    values = sorted(source.sample(range(-6, 10), many))
    return bidder(name, [Fraction(number, 2) for number in values],
                  [Fraction(source.choice((1, 1, 2, 5, 9)), source.choice((1, 2, 3))) for _ in values])


class Values(unittest.TestCase):
    def test_virtual_values(self):
        self.assertEqual(virtual_values(rs(5), rs("1/3")), rs(5))
        self.assertEqual(virtual_values(rs(1, 2, 4), rs(1, 2, 3)), rs(1 - 1 * 5, 2 - 2 * Fraction(3, 2), 4))
        self.assertEqual(virtual_values(rs(-2, "1/2"), rs("1/2", "1/4")), rs(-2 - Fraction(5, 4), "1/2"))

    def test_several_joins_one_after_another(self):
        values, weights = rs(1, 2, 3, 4), rs(4, 1, 1, 1)
        self.assertEqual(judged_virtual(values, weights), [Fraction(1, 4), 0, 2, 4])
        self.assertEqual(ironed_values(values, weights), rs("1/5", "1/5", 2, 4))
        values, weights = rs(1, 2, 3, 4), rs(9, 3, 1, 1)
        self.assertEqual(judged_virtual(values, weights), [Fraction(4, 9), Fraction(4, 3), 2, 4])
        self.assertEqual(ironed_values(values, weights), virtual_values(values, weights))
        values, weights = rs(1, 2, 3, 9), rs(9, 3, 1, 1)
        virtual = [Fraction(4, 9), Fraction(4, 3), Fraction(-3), Fraction(9)]
        self.assertEqual(judged_virtual(values, weights), virtual)
        # 4/3 and -3 join to 1/4, and then 4/9 joins them.
        self.assertEqual(ironed_values(values, weights), rs("5/13", "5/13", "5/13", 9))

    def test_blocks_are_weighted(self):
        found = ironed_values(rs(4, 5, 6), rs(3, 1, 5))
        self.assertEqual(virtual_values(rs(4, 5, 6), rs(3, 1, 5)), rs(2, 0, 6))
        self.assertEqual(found, rs("3/2", "3/2", 6))

    def test_against_the_judge(self):
        source = seeded(1201)
        joined = []
        for _ in range(1000):
            _, values, weights = some_bidder(source, "ann")
            before = copy.deepcopy((values, weights))
            virtual, ironed = virtual_values(values, weights), ironed_values(values, weights)
            self.assertEqual(plains(virtual), judged_virtual(values, weights))
            self.assertEqual(plains(ironed), judged_ironed(values, weights))
            # The order of joining does not matter.
            self.assertEqual(plains(ironed), judged_ironed(values, weights, last=True))
            self.assertEqual(plains(ironed), sorted(plains(ironed)))
            if plains(virtual) == sorted(plains(virtual)):
                self.assertEqual(virtual, ironed)
            self.assertEqual((values, weights), before)
            joined.append(len(values) - len(set(ironed)))
        for many in (0, 1, 2):
            self.assertGreater(joined.count(many), 20, many)

    def test_faults(self):
        for values, weights in (([], []), ([1, 2], [1]), ([1], [1, 1]), ([2, 1], [1, 1]), ([1, 1], [1, 1]),
                                ([1, 2], [1, 0]), ([1], [-1]), ([1, 2, 3, 4, 5], [1] * 5)):
            for call in (virtual_values, ironed_values):
                with self.assertRaises(InvalidBidders) as caught:
                    call(rs(*values), rs(*weights))
                self.assertIsInstance(caught.exception.reason, str)


class GameOfTheBidders(unittest.TestCase):
    def test_part_by_part(self):
        bidders = [bidder("ann", [1, 2, 5, 6], ["1/2", 1, 2, 3]), bidder("bob", [-1, 4], [7, 1]), bidder("cid", [0])]
        before = copy.deepcopy(bidders)
        game = bidders_game(bidders)
        self.assertEqual(game.outcomes, ["nobody", "ann", "bob", "cid"])
        self.assertEqual((game.aim, game.payments, game.lots, game.needs), ("paid", True, True, [("part",)]))
        self.assertEqual(game.agents, [
            ("ann", [("ka", r("1/2"), ZERO, rs(0, 1, 0, 0)), ("kb", r(1), ZERO, rs(0, 2, 0, 0)),
                     ("kc", r(2), ZERO, rs(0, 5, 0, 0)), ("kd", r(3), ZERO, rs(0, 6, 0, 0))]),
            ("bob", [("ka", r(7), ZERO, rs(0, 0, -1, 0)), ("kb", r(1), ZERO, rs(0, 0, 4, 0))]),
            ("cid", [("ka", r(1), ZERO, rs(0, 0, 0, 0))]),
        ])
        self.assertEqual(bidders, before)
        self.assertIsInstance(game, Game)
        self.assertTrue(same_game(game, bidders_game(bidders)))

    def test_faults(self):
        good = bidder("bob", [1, 2])
        twelve, thirteen = "a" * 12, "a" * 13
        self.assertEqual(bidders_game([bidder(twelve, [1])]).outcomes, ["nobody", twelve])
        wrong = [
            [], [bidder(name, [1]) for name in ("ann", "bob", "cid", "dan", "eve")],
            [good, good], [good, bidder("nobody", [1])], [bidder("", [1])], [bidder("Ann", [1])], [bidder("a b", [1]), good],
            [good, bidder(thirteen, [1])],
            [good, bidder("ann", [])], [good, bidder("ann", [1, 2, 3, 4, 5])], [good, bidder("ann", [2, 1])],
            [good, bidder("ann", [1, 1])], [good, bidder("ann", [1], [0])], [bidder("ann", [1, 2], [1, -1]), good],
            [bidder("ann", [1, 2], [1]), good], [bidder("ann", [1], [1, 2]), good],
            [bidder("ann", [1, 2, 3, 4]), good, bidder("cid", [1, 2, 3])],
            [bidder(name, [1, 2, 3]) for name in ("ann", "bob", "cid")],
        ]
        for bidders in wrong:
            for call in (bidders_game, auction):
                with self.assertRaises(InvalidBidders) as caught:
                    call(bidders)
                self.assertIsInstance(caught.exception.reason, str)

    def test_sixteen_profiles(self):
        pairs = [bidder(name, [1, 2]) for name in ("ann", "bob", "cid", "dan")]
        self.assertEqual(len(auction(pairs)), 16)
        self.assertEqual(len(auction([bidder("ann", [1, 2, 3, 4]), bidder("bob", [1, 2, 3, 4])])), 16)


def judged_auction(bidders):
    """The auction from the document, with Python's own fractions."""
    ironed = [judged_ironed(values, weights) for _, values, weights in bidders]
    kinds = [range(len(values)) for _, values, _ in bidders]

    def winner(profile):
        amounts = [ironed[at][kind] for at, kind in enumerate(profile)]
        return amounts.index(max(amounts)) if max(amounts) > 0 else None

    rule = []
    for profile in itertools.product(*kinds):
        lot, paid = [0] * (len(bidders) + 1), [0] * len(bidders)
        won = winner(profile)
        lot[0 if won is None else won + 1] = 1
        if won is not None:
            paid[won] = min(plain(bidders[won][1][kind]) for kind in kinds[won]
                            if winner((*profile[:won], kind, *profile[won + 1:])) == won)
        rule.append(entry_of(lot, paid))
    return rule


def judged_value(bidders):
    ironed = [judged_ironed(values, weights) for _, values, weights in bidders]
    amount = Fraction(0)
    for profile in itertools.product(*[range(len(values)) for _, values, _ in bidders]):
        weight = Fraction(1)
        for at, kind in enumerate(profile):
            weight *= plain(bidders[at][2][kind])
        amount += weight * max([0] + [ironed[at][kind] for at, kind in enumerate(profile)])
    return amount


class Auctions(unittest.TestCase):
    def test_ties_go_to_the_first_bidder(self):
        # Both have the ironed values -1 and 3. Ann wins a tie, so bob must bid more than she does.
        pair = [bidder("ann", [1, 3]), bidder("bob", [1, 3])]
        self.assertEqual(auction(pair), [
            entry_of([1, 0, 0], [0, 0]), entry_of([0, 0, 1], [0, 3]),
            entry_of([0, 1, 0], [3, 0]), entry_of([0, 1, 0], [3, 0]),
        ])

    def test_the_price_depends_on_the_others(self):
        # The ironed values of both are 2, 4 and 6 at most; ann wins ties.
        bidders = [bidder("ann", [4, 5, 6], [1, 1, 1]), bidder("bob", [5, 6], [1, 1])]
        self.assertEqual([ironed_values(values, weights) for _, values, weights in bidders], [rs(2, 4, 6), rs(4, 6)])
        self.assertEqual(auction(bidders), [
            entry_of([0, 0, 1], [0, 5]), entry_of([0, 0, 1], [0, 5]),
            entry_of([0, 1, 0], [5, 0]), entry_of([0, 0, 1], [0, 6]),
            entry_of([0, 1, 0], [5, 0]), entry_of([0, 1, 0], [6, 0]),
        ])

    def test_values_that_are_not_above_0(self):
        self.assertEqual(auction([bidder("ann", [-1]), bidder("bob", [0])]), [entry_of([1, 0, 0], [0, 0])])
        # The ironed values are 0 and 2: with 0 nobody gets the thing.
        self.assertEqual(ironed_values(rs(1, 2), rs(1, 1)), rs(0, 2))
        self.assertEqual(auction([bidder("ann", [1, 2])]), [entry_of([1, 0], [0]), entry_of([0, 1], [2])])
        self.assertEqual(auction([bidder("ann", ["1/2"])]), [entry_of([0, 1], ["1/2"])])

    def test_ironed_values_count(self):
        # The virtual values are 2, 0 and 6, the ironed ones 3/2, 3/2 and 6.
        self.assertEqual(auction([bidder("ann", [4, 5, 6], [3, 1, 5])]), [entry_of([0, 1], [4])] * 3)

    def test_against_the_judge(self):
        source = seeded(1202)
        sold = []
        for _ in range(150):
            bidders = [some_bidder(source, name, 2) for name in ("ann", "bob", "cid", "dan")[:source.randint(1, 4)]]
            if source.random() < 0.3:
                bidders = [some_bidder(source, "ann"), some_bidder(source, "bob")]
            before = copy.deepcopy(bidders)
            rule = auction(bidders)
            self.assertEqual(rule, judged_auction(bidders))
            game = bidders_game(bidders)
            self.assertTrue(is_rule(game, rule))
            self.assertTrue(is_good(game, rule))
            self.assertEqual(plain(value(game, rule)), judged_value(bidders))
            self.assertEqual(bidders, before)
            sold.append(sum(entry[0][0] == ZERO for entry in rule) * 2 > len(rule))
        self.assertGreater(sold.count(True), 20)
        self.assertGreater(sold.count(False), 20)

    def test_no_good_rule_has_a_greater_value(self):
        source = seeded(1203)
        for at in range(25):
            bidders = [some_bidder(source, name, 2) for name in ("ann", "bob", "cid")[:1 + at % 3]]
            if at % 5 == 0:
                bidders = [some_bidder(source, "ann", 4), some_bidder(source, "bob", 2)]
            game = bidders_game(bidders)
            self.assertLessEqual(len(profiles(game)) * (2 * len(bidders) + 1), 72)
            answer = find(game)
            self.assertEqual(answer[0], "best")
            self.assertTrue(accepts(game, answer))
            self.assertEqual(value(game, answer[1]), value(game, auction(bidders)))

    def test_the_entries_are_apart(self):
        rule = auction([bidder("ann", [1, 2]), bidder("bob", [1, 2])])
        rule[0][0][0] = rule[0][1][0] = None
        self.assertEqual(rule[1:], auction([bidder("ann", [1, 2]), bidder("bob", [1, 2])])[1:])


if __name__ == "__main__":
    unittest.main()
