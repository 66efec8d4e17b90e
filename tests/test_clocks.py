"""Points 89 to 91: clock auctions, their games and trees."""

import unittest

from tests.kit import ONE, ZERO, flat, plain, r, rs, seeded
from unbent.clocks import clock
from unbent.errors import InvalidClock, TooLarge
from unbent.games import Game, is_rule, profiles, same_game
from unbent.obvious import first_doubt, grow
from unbent.rules import first_lie, meets
from unbent.vines import is_tree, play, rule_of


def judged_sale(values, profile):
    """Who gets the thing and what it pays, by running the clock for bidders who tell the truth."""
    staying = {bidder: 0 for bidder in range(len(profile))}
    for level in range(1, len(values)):
        for bidder in reversed(range(len(profile))):
            if len(staying) == 1:
                break
            if bidder in staying:
                if profile[bidder] >= level:
                    staying[bidder] = level
                else:
                    del staying[bidder]
    winner = min(staying)
    return winner, values[staying[winner]]


def judged_tree(values, bidders):
    """The nested tree, question by question."""

    def end(winner, price):
        return "end", winner + 1, [price if at == winner else ZERO for at in range(bidders)]

    def asked(calls, staying):
        if len(staying) == 1:
            winner = list(staying)[0]
            return end(winner, values[staying[winner]])
        if not calls:
            return end(min(staying), values[-1])
        level, bidder = calls[0]
        if bidder not in staying:
            return asked(calls[1:], staying)
        out = {other: price for other, price in staying.items() if other != bidder}
        yes = asked(calls[1:], {**staying, bidder: level})
        return "ask", bidder, list(range(level, len(values))), yes, asked(calls[1:], out)

    calls = [(level, bidder) for level in range(1, len(values)) for bidder in reversed(range(bidders))]
    return asked(calls, {bidder: 0 for bidder in range(bidders)})


SIZES = [(1, 1), (2, 1), (3, 1), (4, 1), (1, 2), (2, 2), (3, 2), (4, 2), (1, 3), (2, 3)]


class Clocks(unittest.TestCase):
    def test_example_of_the_interface(self):
        game, tree = clock([(1, 1), (2, 1), (3, 1)], 2)
        self.assertEqual((tree[0], tree[1]), (("ask", 1, [1, 2], 1, 8), ("ask", 0, [1, 2], 2, 7)))
        self.assertEqual((tree[play(game, tree, (0, 0))[0]], tree[play(game, tree, (1, 2))[0]]),
                         (("end", 1, [(1, 1), (0, 1)]), ("end", 2, [(0, 1), (3, 1)])))
        self.assertEqual((first_doubt(game, tree) is None, grow(game, rule_of(game, tree))[0]), (True, "tree"))

    def test_games(self):
        game, _ = clock(rs(1, 2), 3)
        kinds = {}
        for at in (1, 2, 3):
            low, high = [ZERO] * 4, [ZERO] * 4
            low[at], high[at] = ONE, r(2)
            kinds[at] = [("a", ONE, ZERO, low), ("b", ONE, ZERO, high)]
        agents = [("one", kinds[1]), ("two", kinds[2]), ("three", kinds[3])]
        expected = Game(agents, ["nobody", "one", "two", "three"], payments=True, needs=[("part",)])
        self.assertTrue(same_game(game, expected))
        game, _ = clock([r(-1, 2), ZERO, r(1, 3), r(7)], 1)
        kinds = [("a", ONE, ZERO, [ZERO, r(-1, 2)]), ("b", ONE, ZERO, [ZERO, ZERO]),
                 ("c", ONE, ZERO, [ZERO, r(1, 3)]), ("d", ONE, ZERO, [ZERO, r(7)])]
        expected = Game([("one", kinds)], ["nobody", "one"], aim="total", payments=True, needs=[("part",)])
        self.assertTrue(same_game(game, expected))

    def test_trees_node_by_node(self):
        self.assertEqual(clock([r(5)], 1)[1], [("end", 1, [r(5)])])
        self.assertEqual(clock(rs(1, 2, 3, 4), 1)[1], [("end", 1, [ONE])])
        self.assertEqual(clock([r(5)], 2)[1], [("end", 1, [r(5), ZERO])])
        self.assertEqual(clock([r(5)], 3)[1], [("end", 1, [r(5), ZERO, ZERO])])
        self.assertEqual(clock(rs(1, 2), 2)[1], [
            ("ask", 1, [1], 1, 4),
            ("ask", 0, [1], 2, 3),
            ("end", 1, [r(2), ZERO]),
            ("end", 2, [ZERO, r(2)]),
            ("end", 1, [ONE, ZERO]),
        ])
        self.assertEqual(clock(rs(1, 2), 3)[1], [
            ("ask", 2, [1], 1, 8),
            ("ask", 1, [1], 2, 5),
            ("ask", 0, [1], 3, 4),
            ("end", 1, [r(2), ZERO, ZERO]),
            ("end", 2, [ZERO, r(2), ZERO]),
            ("ask", 0, [1], 6, 7),
            ("end", 1, [r(2), ZERO, ZERO]),
            ("end", 3, [ZERO, ZERO, r(2)]),
            ("ask", 1, [1], 9, 12),
            ("ask", 0, [1], 10, 11),
            ("end", 1, [r(2), ZERO, ZERO]),
            ("end", 2, [ZERO, r(2), ZERO]),
            ("end", 1, [ONE, ZERO, ZERO]),
        ])
        self.assertEqual(clock(rs(1, 2, 3), 2)[1], [
            ("ask", 1, [1, 2], 1, 8),
            ("ask", 0, [1, 2], 2, 7),
            ("ask", 1, [2], 3, 6),
            ("ask", 0, [2], 4, 5),
            ("end", 1, [r(3), ZERO]),
            ("end", 2, [ZERO, r(3)]),
            ("end", 1, [r(2), ZERO]),
            ("end", 2, [ZERO, r(2)]),
            ("end", 1, [ONE, ZERO]),
        ])

    def test_all_sizes(self):
        source = seeded(221)
        for many, bidders in SIZES:
            values = sorted({r(source.randint(-20, 20), source.randint(1, 5)) for _ in range(40)}, key=plain)
            values = sorted(source.sample(values, many), key=plain)
            before = list(values)
            game, tree = clock(values, bidders)
            self.assertEqual(values, before)
            self.assertEqual(tree, flat(judged_tree(values, bidders)))
            self.assertTrue(is_tree(game, tree))
            self.assertEqual([len(kinds) for _, kinds in game.agents], [many] * bidders)
            rule = rule_of(game, tree)
            self.assertTrue(is_rule(game, rule))
            for profile in profiles(game):
                winner, price = judged_sale(values, profile)
                _, outcome, paid = tree[play(game, tree, profile)[0]]
                self.assertEqual((outcome, paid[winner]), (winner + 1, price))
                self.assertEqual([amount for at, amount in enumerate(paid) if at != winner], [ZERO] * (bidders - 1))
            # No doubt, so no lie; and nobody has less than alone.
            self.assertIsNone(first_doubt(game, tree))
            self.assertIsNone(first_lie(game, rule))
            self.assertTrue(meets(game, rule, ("part",)))
            self.assertEqual(grow(game, rule)[0], "tree")

    def test_wrong_values(self):
        for values in ([], rs(1, 1), rs(2, 1), rs(1, 2, 2), rs(1, 3, 2), rs(3, 2, 1), rs(1, 2, 3, 4, 4),
                       rs(5, 4, 3, 2, 1), [r(1, 2), r(1, 3)], rs(0, -1)):
            for bidders in (1, 2, 3):
                with self.assertRaises(InvalidClock):
                    clock(values, bidders)

    def test_wrong_numbers_of_bidders(self):
        for bidders in (0, 4, -1, 5, 100):
            for values in (rs(1), rs(1, 2), rs(1, 2, 3, 4, 5), rs(2, 1), []):
                with self.assertRaises(InvalidClock):
                    clock(values, bidders)

    def test_too_many(self):
        for values, bidders in ((rs(1, 2, 3, 4, 5), 1), (rs(1, 2, 3, 4, 5), 2), (rs(1, 2, 3, 4, 5), 3),
                                (rs(1, 2, 3), 3), (rs(1, 2, 3, 4), 3), (rs(*range(200)), 1)):
            with self.assertRaises(TooLarge):
                clock(values, bidders)

    def test_results_are_new(self):
        values = rs(1, 2)
        game, tree = clock(values, 2)
        tree[0][2].append(7)
        tree[2][2][0] = ZERO
        game.agents[0][1][0][3][1] = r(9)
        values.append(r(3))
        again = clock(rs(1, 2), 2)
        self.assertEqual(again[1][0], ("ask", 1, [1], 1, 4))
        self.assertEqual(again[1][2], ("end", 1, [r(2), ZERO]))
        self.assertEqual(again[0].agents[0][1][0][3], [ZERO, ONE, ZERO])


if __name__ == "__main__":
    unittest.main()
