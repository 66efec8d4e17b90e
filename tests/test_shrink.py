"""Points 54 to 56: making a game without a good rule smaller."""

import unittest
from unittest import mock

from tests.kit import ONE, ZERO, game_of, kind_of, r, rs, seeded, some_game, state
from unbent.best import accepts, find
from unbent.errors import HasGoodRule, TooLarge
from unbent.games import Game, profiles, same_game
from unbent.model import program_of, whole_variables
from unbent.shrink import shrink, without_kind, without_need, without_outcome


def rich_game(**more):
    """Three outcomes, and each need."""
    needs = [("part",), ("order", 0, [0, 2]), ("envy", 0, 1, [0, 2, 1]), ("order", 1, [1]), ("bound", ONE)]
    ann = ("ann", [kind_of("a", [1, 2, 3], 2, -1), kind_of("b", [4, 5, 6]), kind_of("c", [7, 8, 9])])
    bob = ("bob", [kind_of("d", [0, 1, 0])])
    return Game([ann, bob], ["x", "y", "z"], aim="worst", payments=True, needs=needs, **more)


class LeavingOut(unittest.TestCase):
    def same(self, found, agents, outcomes, needs, game):
        expected = Game(agents, outcomes, aim=game.aim, payments=game.payments, lots=game.lots, needs=needs)
        self.assertIsInstance(found, Game)
        self.assertTrue(same_game(found, expected), vars(found))

    def test_needs(self):
        game = rich_game(lots=True)
        before = state(game)
        for index in range(5):
            rest = game.needs[:index] + game.needs[index + 1:]
            self.same(without_need(game, index), game.agents, game.outcomes, rest, game)
        self.assertEqual(state(game), before)
        last = without_need(game_of([[[0]]], needs=[("part",)]), 0)
        self.assertEqual(last.needs, [])

    def test_kinds(self):
        game = rich_game()
        before = state(game)
        name, kinds = game.agents[0]
        for kind in range(3):
            rest = [(name, kinds[:kind] + kinds[kind + 1:]), game.agents[1]]
            self.same(without_kind(game, 0, kind), rest, game.outcomes, game.needs, game)
        self.assertIsNone(without_kind(game, 1, 0))
        self.assertEqual(state(game), before)
        # The kinds behind the one that is left out have an index less by one.
        self.assertEqual([kind[0] for kind in without_kind(game, 0, 1).agents[0][1]], ["a", "c"])
        self.assertEqual(without_kind(without_kind(game, 0, 0), 0, 0).agents[0][1], [kinds[2]])
        self.assertIsNone(without_kind(without_kind(without_kind(game, 0, 0), 0, 0), 0, 0))

    def test_outcomes_that_are_swapped(self):
        game = rich_game()
        before = state(game)
        self.assertIsNone(without_outcome(game, 1))
        self.assertIsNone(without_outcome(game, 2))
        self.assertEqual(state(game), before)

    def test_an_outcome_before_others(self):
        game = rich_game(lots=True)
        ann = ("ann", [kind_of("a", [2, 3], 2, -1), kind_of("b", [5, 6]), kind_of("c", [8, 9])])
        bob = ("bob", [kind_of("d", [1, 0])])
        needs = [("part",), ("order", 0, [1]), ("envy", 0, 1, [1, 0]), ("order", 1, [0]), ("bound", ONE)]
        self.same(without_outcome(game, 0), [ann, bob], ["y", "z"], needs, game)

    def test_a_need_of_order_that_loses_its_last_outcome(self):
        game = without_need(rich_game(), 2)
        ann = ("ann", [kind_of("a", [1, 3], 2, -1), kind_of("b", [4, 6]), kind_of("c", [7, 9])])
        bob = ("bob", [kind_of("d", [0, 0])])
        needs = [("part",), ("order", 0, [0, 1]), ("bound", ONE)]
        self.same(without_outcome(game, 1), [ann, bob], ["x", "z"], needs, game)

    def test_an_outcome_behind_others(self):
        game = game_of([[[1, 2, 3, 4]], [[5, 6, 7, 8]]],
                       needs=[("envy", 0, 1, [1, 0, 2, 3]), ("order", 0, [1, 2]), ("order", 1, [0, 3])])
        smaller = game_of([[[1, 2, 4]], [[5, 6, 8]]], ["one", "two", "four"],
                          needs=[("envy", 0, 1, [1, 0, 2]), ("order", 0, [1]), ("order", 1, [0, 2])])
        self.assertTrue(same_game(without_outcome(game, 2), smaller))
        self.assertTrue(same_game(without_outcome(game, 3), game_of(
            [[[1, 2, 3]], [[5, 6, 7]]],
            needs=[("envy", 0, 1, [1, 0, 2]), ("order", 0, [1, 2]), ("order", 1, [0])])))
        self.assertIsNone(without_outcome(game, 0))
        self.assertIsNone(without_outcome(game, 1))

    def test_one_of_several_swaps(self):
        needs = [("envy", 0, 1, [0, 1, 2]), ("envy", 1, 2, [2, 1, 0])]
        game = game_of([[[0, 0, 0]]] * 3, needs=needs)
        self.assertIsNone(without_outcome(game, 0))
        self.assertIsNone(without_outcome(game, 2))
        self.assertEqual(without_outcome(game, 1).needs, [("envy", 0, 1, [0, 1]), ("envy", 1, 2, [1, 0])])

    def test_the_only_outcome(self):
        self.assertIsNone(without_outcome(game_of([[[1]]]), 0))
        self.assertEqual(without_outcome(game_of([[[1, 2]]]), 0).agents[0][1][0][3], [r(2)])

    def test_things_that_are_not_there(self):
        game = without_need(without_kind(rich_game(), 0, 0), 2)
        for found in (without_need(game, 4), without_need(game, -1), without_kind(game, 0, 2), without_kind(game, 0, -1),
                      without_kind(game, 2, 0), without_outcome(game, 3), without_outcome(game, -1)):
            self.assertIsNone(found)
        self.assertIsNone(without_kind(Game(game.agents[::-1], ["x", "y", "z"]), -1, 0))


def smaller_games(game):
    """The smaller games in the order of point 55."""
    found = [without_need(game, index) for index in range(len(game.needs))]
    for agent, (_, kinds) in enumerate(game.agents):
        found += [without_kind(game, agent, kind) for kind in range(len(kinds))]
    found += [without_outcome(game, outcome) for outcome in range(len(game.outcomes))]
    return [item for item in found if item is not None]


def judged_shrink(game):
    for smaller in smaller_games(game):
        if find(smaller)[0] == "none":
            return judged_shrink(smaller)
    return game


def hopeless(alone=5, **more):
    """An agent that has more alone than it can ever have."""
    kinds = [kind_of("a", [1, 0], 1, alone), kind_of("b", [0, 1], 1, alone)]
    return Game([("ann", kinds), ("bob", [kind_of("c", [0, 0])])], ["one", "two"], needs=[("part",)], **more)


class Shrinking(unittest.TestCase):
    def check(self, game):
        before = state(game)
        found = shrink(game)
        self.assertIsInstance(found, tuple)
        last, answer = found
        self.assertTrue(same_game(last, judged_shrink(game)))
        self.assertEqual(answer[0], "none")
        self.assertTrue(accepts(last, answer))
        for smaller in smaller_games(last):
            self.assertNotEqual(find(smaller)[0], "none")
        self.assertEqual(state(game), before)
        return last

    def test_at_random(self):
        source = seeded(901)
        shrunk = []
        while len(shrunk) < 40:
            game = some_game(source)
            agents = [(name, [(word, weight, r(source.randint(-1, 2)), worths) for word, weight, _, worths in kinds])
                      for name, kinds in game.agents]
            needs = game.needs if ("part",) in game.needs else [*game.needs, ("part",)]
            game = Game(agents, game.outcomes, aim=game.aim, payments=game.payments, lots=game.lots, needs=needs)
            if len(profiles(game)) > 6 or len(whole_variables(game)) > 12:
                continue
            if find(game)[0] == "none":
                shrunk.append(len(game.needs) + len(game.outcomes) - len(self.check(game).needs))
            else:
                with self.assertRaises(HasGoodRule):
                    shrink(game)
        self.assertGreater(max(shrunk), 3)

    def test_order_of_the_tries(self):
        # Both kinds are hopeless, so the first one goes; the outcomes go from the first one on.
        game = hopeless()
        last = self.check(game)
        self.assertEqual([[kind[0] for kind in kinds] for _, kinds in last.agents], [["b"], ["c"]])
        self.assertEqual(last.outcomes, ["two"])
        self.assertEqual(last.needs, [("part",)])

    def test_needs_are_tried_before_kinds_and_kinds_before_outcomes(self):
        # At first only one of two things must go: which one shows the order.
        needs = [("part",), ("order", 0, [0])]
        game = Game(hopeless().agents, ["one", "two"], needs=needs)
        seen = []

        def watched(smaller):
            seen.append((len(smaller.needs), [len(kinds) for _, kinds in smaller.agents], len(smaller.outcomes)))
            return find(smaller)

        with mock.patch("unbent.shrink.find", watched):
            shrink(game)
        self.assertEqual(seen, [
            (2, [2, 1], 2),  # the game itself
            (1, [2, 1], 2), (1, [2, 1], 2),  # part is needed, order is left out
            (0, [2, 1], 2), (1, [1, 1], 2),  # the kind a is left out
            (0, [1, 1], 2), (1, [1, 1], 1),  # the outcome one is left out
            (0, [1, 1], 1),
        ])

    def test_nothing_can_be_left_out(self):
        game = Game([("ann", [kind_of("a", [0], 1, 1)])], ["one"], needs=[("part",)])
        last, answer = shrink(game)
        self.assertTrue(same_game(last, game))
        self.assertTrue(accepts(game, answer))

    def test_nothing_can_be_left_out_of_several_things(self):
        # Ann gets what she prefers, so the need of order fails; no outcome can go, for they are swapped.
        ann = ("ann", [kind_of("a", [1, 0]), kind_of("b", [0, 1])])
        bob = ("bob", [kind_of("c", [0, 0])])
        needs = [("envy", 0, 1, [1, 0]), ("order", 0, [0])]
        game = Game([ann, bob], ["one", "two"], needs=needs)
        self.assertEqual(len(smaller_games(game)), 4)
        self.assertTrue(same_game(self.check(game), game))
        with self.assertRaises(HasGoodRule):
            shrink(Game([ann, bob], ["one", "two"], needs=needs, lots=True))

    def test_the_first_thing_is_left_out_again_and_again(self):
        # Without one outcome one of the kinds is hopeless, and everything else can go then.
        kinds = [kind_of("a", [0, 1], 1, 1), kind_of("b", [1, 0], 1, 1)]
        game = Game([("ann", kinds)], ["one", "two"], needs=[("order", 0, [1]), ("part",), ("bound", ONE)])
        self.assertEqual(find(without_need(game, 0))[0], "best")
        last = self.check(game)
        self.assertEqual((last.needs, last.outcomes, [kind[0] for kind in last.agents[0][1]]), ([("part",)], ["two"], ["b"]))

    def test_good_rule(self):
        with self.assertRaises(HasGoodRule):
            shrink(game_of([[[1, 2], [2, 1]]]))
        with self.assertRaises(HasGoodRule):
            shrink(game_of([[[1, 2], [2, 1]]], aim="paid", payments=True))

    def test_a_smaller_game_that_cannot_be_searched(self):
        game = hopeless()

        def narrow(smaller):
            if len(smaller.outcomes) == 1:
                raise TooLarge("leaves")
            return find(smaller)

        with mock.patch("unbent.shrink.find", narrow):
            last, answer = shrink(game)
        self.assertEqual(last.outcomes, ["one", "two"])
        self.assertEqual([len(kinds) for _, kinds in last.agents], [1, 1])
        self.assertTrue(accepts(last, answer))


class Limits(unittest.TestCase):
    def game(self, sizes, outcomes, alone=5, **more):
        agents = []
        for name, size in zip(("ann", "bob", "cid"), sizes):
            agents.append((name, [("abcd"[kind], ONE, r(alone), rs(*[int(o == kind) for o in range(outcomes)]))
                                  for kind in range(size)]))
        return Game(agents, ["one", "two", "three", "four", "five", "six"][:outcomes], needs=[("part",)], **more)

    def test_profiles(self):
        last, answer = shrink(self.game([3, 2], 2))
        self.assertTrue(accepts(last, answer))
        last, answer = shrink(self.game([3, 2], 6, lots=True))
        self.assertTrue(accepts(last, answer))
        # No game has 7 profiles.
        for sizes in ([4, 2], [2, 2, 2]):
            for lots in (False, True):
                with self.assertRaises(TooLarge):
                    shrink(self.game(sizes, 1, lots=lots))

    def test_whole_variables(self):
        for sizes, outcomes in (([4], 3), ([3], 4), ([2], 6), ([3, 2], 2)):
            game = self.game(sizes, outcomes)
            self.assertEqual(len(whole_variables(game)), 12)
            self.assertEqual(shrink(game)[1][0], "none")
        for sizes, outcomes in (([3], 5), ([4], 4)):
            with self.assertRaises(TooLarge):
                shrink(self.game(sizes, outcomes))
            self.assertEqual(shrink(self.game(sizes, outcomes, lots=True))[1][0], "none")

    def test_the_search(self):
        names = ("ann", "bob", "cid", "dan")
        sizes = (3, 2, 1, 1)
        agents = [(name, [("abc"[kind], ONE, r(9), [ZERO]) for kind in range(size)]) for name, size in zip(names, sizes)]
        envies = [("envy", a, b, [0]) for a in range(4) for b in range(a + 1, 4)]
        needs = [("part",), ("budget",), ("even",), ("bound", ONE), *envies]
        game = Game(agents, ["one"], aim="worst", payments=True, lots=True, needs=needs)
        self.assertEqual((len(profiles(game)), len(program_of(game).rows)), (6, 204))
        with self.assertRaises(TooLarge):
            shrink(game)
        last, answer = shrink(without_need(game, 2))
        self.assertTrue(accepts(last, answer))

    def test_too_large_comes_before_a_good_rule(self):
        with self.assertRaises(TooLarge):
            shrink(self.game([2, 2, 2], 1, alone=0))
        with self.assertRaises(TooLarge):
            shrink(self.game([4], 4, alone=0))
        with self.assertRaises(HasGoodRule):
            shrink(self.game([3, 2], 2, alone=0))


if __name__ == "__main__":
    unittest.main()
