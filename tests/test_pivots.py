"""Point 68: the pivot rule."""

import itertools
import unittest

from tests.kit import ZERO, entry_of, game_of, plain, plains, seeded, some_game, some_rule, state
from tests.test_rules import Judge
from unbent.best import find
from unbent.errors import InvalidGame
from unbent.games import Game, is_rule
from unbent.pivots import pivot_rule
from unbent.rules import first_lie, value


class Examples(unittest.TestCase):
    def test_of_the_interface(self):
        low = ("low", (1, 1), (0, 1), [(0, 1), (1, 1)])
        high = ("high", (1, 1), (0, 1), [(0, 1), (3, 1)])
        cost = ("cost", (1, 1), (0, 1), [(0, 1), (-2, 1)])
        game = Game([("ann", [low, high]), ("bob", [cost])], ["none", "all"], payments=True)
        self.assertEqual(pivot_rule(game), [([(1, 1), (0, 1)], [(0, 1), (1, 1)]), ([(0, 1), (1, 1)], [(2, 1), (0, 1)])])


class WrittenOut(unittest.TestCase):
    def test_one_agent_pays_nothing(self):
        game = game_of([[[1, 5, 3], [2, -1, 2]]], payments=True)
        self.assertEqual(pivot_rule(game), [entry_of([0, 1, 0], [0]), entry_of([1, 0, 0], [0])])

    def test_ties_go_to_the_first_outcome(self):
        game = game_of([[[0, 2, 1, 2]], [[0, 1, 2, 1]]], payments=True)
        # All but the first sum to 3. Without ann the third one is worth 1 more to bob, and the other way round.
        self.assertEqual(pivot_rule(game), [entry_of([0, 1, 0, 0], [1, 0])])

    def test_three_agents(self):
        game = game_of([[[0, 6, 0]], [[4, 0, 0]], [["1/2", 0, 3]]], payments=True, lots=True)
        # The sums are 9/2, 6 and 3. Without ann the first one is worth 9/2 to the others.
        self.assertEqual(pivot_rule(game), [entry_of([0, 1, 0], ["9/2", 0, 0])])
        game = game_of([[[0, 6, 0]], [[4, 0, 0]], [["5/2", 0, 3]]], payments=True)
        # The sums are 13/2, 6 and 3: without bob or cid the second one is worth 6 instead of 5/2 or 4.
        self.assertEqual(pivot_rule(game), [entry_of([1, 0, 0], [0, "7/2", 2])])

    def test_without_payments(self):
        for lots in (False, True):
            with self.assertRaises(InvalidGame) as caught:
                pivot_rule(game_of([[[0, 1]]], lots=lots))
            self.assertIsInstance(caught.exception.reason, str)


def judged_pivot(game):
    """The pivot rule from the document, with Python's own fractions."""
    rule = []
    for profile in itertools.product(*[range(len(kinds)) for _, kinds in game.agents]):
        worths = [plains(kinds[kind][3]) for (_, kinds), kind in zip(game.agents, profile)]
        outcomes = range(len(game.outcomes))
        sums = [sum(line[o] for line in worths) for o in outcomes]
        chosen = sums.index(max(sums))
        paid = [max(sums[o] - line[o] for o in outcomes) - (sums[chosen] - line[chosen]) for line in worths]
        rule.append(entry_of([int(o == chosen) for o in outcomes], paid))
    return rule


def some_paid_games(many, seed):
    source = seeded(seed)
    for _ in range(many):
        game = some_game(source)
        yield source, Game(game.agents, game.outcomes, aim="total", payments=True, lots=game.lots)


class Against(unittest.TestCase):
    def test_against_the_judge(self):
        paid = 0
        for _, game in some_paid_games(200, 1301):
            before = state(game)
            rule = pivot_rule(game)
            self.assertEqual(rule, judged_pivot(game))
            self.assertTrue(is_rule(game, rule))
            self.assertTrue(all(plain(amount) >= 0 for entry in rule for amount in entry[1]))
            paid += sum(amount != ZERO for entry in rule for amount in entry[1])
            self.assertFalse([lie for lie in Judge(game, rule).lies() if lie[4] > 0])
            self.assertIsNone(first_lie(game, rule))
            self.assertEqual(state(game), before)
        self.assertGreater(paid, 100)

    def test_no_rule_has_a_greater_total(self):
        for source, game in some_paid_games(100, 1302):
            rule = pivot_rule(game)
            for _ in range(3):
                other = some_rule(source, game, len(rule))
                self.assertLessEqual(plain(value(game, other)), plain(value(game, rule)))

    def test_it_is_a_best_rule(self):
        for _, game in some_paid_games(30, 1303):
            answer = find(game)
            self.assertEqual((answer[0], value(game, answer[1])), ("best", value(game, pivot_rule(game))))

    def test_the_needs_do_not_matter(self):
        game = game_of([[[0, 1], [0, 3]], [[0, -2]]], payments=True, aim="worst", needs=[("even",), ("bound", ZERO)])
        self.assertEqual(pivot_rule(game), judged_pivot(game))


if __name__ == "__main__":
    unittest.main()
