"""Points 24 to 31: games, profiles, entries and rules."""

import copy
import itertools
import unittest

from tests.kit import ONE, ZERO, entry_of, game_of, kind_of, plain, r, rs, seeded, some_game, some_rule, state
from unbent.errors import InvalidGame, TooLarge, UnknownProfile
from unbent.games import (
    Game, is_entry, is_rule, profile_number, profile_weight, profiles, same_game, with_kind,
)

LOW = kind_of("low", [0, 1])
HIGH = kind_of("high", [0, 3])
AGENTS = [("ann", [LOW, HIGH]), ("bob", [LOW])]


def agents_of(*sizes):
    """Agents with so many kinds each, and two worths for each kind."""
    return [("abcdef"[at], [kind_of("abcdef"[k], [0, 1]) for k in range(size)]) for at, size in enumerate(sizes)]


class Examples(unittest.TestCase):
    def test_of_the_interface(self):
        low = ("low", (1, 2), (0, 1), [(0, 1), (1, 1)])
        high = ("high", (1, 2), (0, 1), [(0, 1), (3, 1)])
        game = Game([("ann", [low, high]), ("bob", [low])], ["none", "all"], payments=True)
        self.assertEqual(profiles(game), [(0, 0), (1, 0)])
        self.assertEqual(profile_weight(game, (1, 0)), (1, 4))
        with self.assertRaises(UnknownProfile):
            profile_number(game, (0, 1))
        with self.assertRaises(InvalidGame):
            Game([("ann", [low])], ["none", "none"])


class Construction(unittest.TestCase):
    def test_attributes(self):
        needs = [("part",), ("bound", (1, 2)), ("envy", 0, 1, [1, 0]), ("order", 0, [1])]
        game = Game(AGENTS, ["none", "all"], aim="worst", payments=True, lots=True, needs=needs)
        self.assertEqual((game.agents, game.outcomes, game.aim), (AGENTS, ["none", "all"], "worst"))
        self.assertEqual((game.payments, game.lots, game.needs), (True, True, needs))

    def test_defaults(self):
        game = Game(AGENTS, ["none", "all"])
        self.assertEqual((game.aim, game.payments, game.lots, game.needs), ("total", False, False, []))
        self.assertEqual(Game(AGENTS, ["none", "all"], needs=(("even",),)).needs, [("even",)])

    def test_everything_is_copied(self):
        worths, swap, chosen = rs(0, 1), [1, 0], [0, 1]
        kinds = [("low", ONE, ZERO, worths)]
        agents = [("ann", kinds), ("bob", [LOW])]
        outcomes, needs = ["none", "all"], [("envy", 0, 1, swap), ("order", 1, chosen)]
        game = Game(agents, outcomes, needs=needs)
        before = state(game)
        worths[0] = r(9)
        kinds.append(HIGH)
        agents.pop()
        outcomes[0] = "some"
        swap.reverse()
        chosen.pop()
        needs.clear()
        self.assertEqual(state(game), before)

    def test_arguments_stay_as_they_were(self):
        agents, outcomes = copy.deepcopy(AGENTS), ["none", "all"]
        needs = [("envy", 0, 1, [1, 0])]
        Game(agents, outcomes, needs=needs)
        self.assertEqual((agents, outcomes, needs), (AGENTS, ["none", "all"], [("envy", 0, 1, [1, 0])]))

    def test_every_aim(self):
        for aim in ("total", "worst", "paid"):
            self.assertEqual(Game(AGENTS, ["none", "all"], aim=aim).aim, aim)

    def test_the_largest(self):
        for sizes in [(4, 4), (2, 2, 2, 2), (4, 2, 2, 1), (1, 1, 1, 1), (4, 4, 1, 1)]:
            game = Game(agents_of(*sizes), ["a", "b"])
            self.assertEqual(len(profiles(game)), len(list(itertools.product(*map(range, sizes)))))
        game_of([[[1] * 6]])
        Game(AGENTS, ["none", "all"], needs=[("order", 0, [0])] * 12)


class Refused(unittest.TestCase):
    def refused(self, error, reason, agents=None, outcomes=("none", "all"), **more):
        with self.assertRaises(error) as caught:
            Game(AGENTS if agents is None else agents, list(outcomes), **more)
        name = "limit" if error is TooLarge else "reason"
        self.assertEqual(getattr(caught.exception, name), reason)

    def test_too_large(self):
        self.refused(TooLarge, "agents", agents_of(1, 1, 1, 1, 1))
        for at in range(4):
            sizes = [1, 1, 1, 1]
            sizes[at] = 5
            self.refused(TooLarge, "kinds", agents_of(*sizes))
        self.refused(TooLarge, "outcomes", outcomes=["a", "b", "c", "d", "e", "f", "g"])
        self.refused(TooLarge, "needs", needs=[("order", 0, [0])] * 13)
        for sizes in [(4, 4, 2), (3, 3, 2), (2, 3, 3), (1, 2, 3, 3), (4, 4, 4, 4)]:
            self.refused(TooLarge, "profiles", agents_of(*sizes))

    def test_order_of_the_limits(self):
        faults = [
            ("agents", {"agents": agents_of(4, 4, 4, 4, 5), "outcomes": ["a"] * 7, "needs": [()] * 13}),
            ("kinds", {"agents": agents_of(4, 5, 4), "outcomes": ["a"] * 7, "needs": [()] * 13}),
            ("outcomes", {"agents": agents_of(4, 4, 4), "outcomes": ["a"] * 7, "needs": [()] * 13}),
            ("needs", {"agents": agents_of(4, 4, 4), "outcomes": ["A"], "needs": [()] * 13, "aim": "none"}),
            ("profiles", {"agents": agents_of(4, 4, 4), "outcomes": ["A"], "needs": [()] * 12, "aim": "none"}),
        ]
        for limit, arguments in faults:
            self.refused(TooLarge, limit, **arguments)

    def test_an_agent_without_kinds_has_no_profiles(self):
        self.refused(InvalidGame, "kinds", agents_of(4, 4, 4, 0))

    def test_agents(self):
        self.refused(InvalidGame, "agents", [])
        for name in ("", "a" * 13, "Ann", "ann ", " ann", "an n", "a1", "a-b", "a_b", "\u00e4", "ann\n", "1"):
            for at in range(2):
                agents = copy.deepcopy(AGENTS)
                agents[at] = (name, agents[at][1])
                self.refused(InvalidGame, "agents", agents)
        self.refused(InvalidGame, "agents", [("ann", [LOW]), ("bob", [LOW]), ("ann", [HIGH])])
        Game([("a" * 12, [LOW]), ("z", [LOW])], ["none", "all"])

    def test_kinds(self):
        for at in range(2):
            agents = copy.deepcopy(AGENTS)
            agents[at] = (agents[at][0], [])
            self.refused(InvalidGame, "kinds", agents)
            for kind in [kind_of("", [0, 1]), kind_of("a" * 13, [0, 1]), kind_of("lOw", [0, 1]),
                         kind_of("mid", [0, 1], weight=-1), ("mid", (-1, 9), ZERO, rs(0, 1)), LOW]:
                agents = copy.deepcopy(AGENTS)
                agents[at][1].append(kind)
                self.refused(InvalidGame, "kinds", agents)
        Game([("ann", [LOW]), ("bob", [kind_of("low", [0, 1], weight=0, alone=-5)])], ["none", "all"])

    def test_outcomes(self):
        for outcomes in ([], ["none", "none"], ["none", "All"], ["", "all"], ["none", "a" * 13], ["none", "a b"]):
            self.refused(InvalidGame, "outcomes", outcomes=outcomes)

    def test_worths(self):
        for worths in ([], [0], [0, 1, 2]):
            for agent, kind in [(0, 0), (0, 1), (1, 0)]:
                agents = copy.deepcopy(AGENTS)
                agents[agent][1][kind] = kind_of("mid", worths)
                self.refused(InvalidGame, "worths", agents)

    def test_aim(self):
        for aim in ("", "best", "Total", "total ", "part"):
            self.refused(InvalidGame, "aim", aim=aim)

    def test_needs(self):
        bad = [
            (), ("",), ("parts",), ("Part",), ("part", 1), ("part", []), ("budget", ZERO), ("even", "even"),
            ("bound",), ("bound", 3), ("bound", (-1, 2)), ("bound", [1]), ("bound", "1"), ("bound", ONE, ONE),
            ("bound", (2, 4)), (3,), ((1, 2),), ([0],), (["part"],),
            ("envy",), ("envy", 0, 1), ("envy", 0, 1, [0, 1], 1), ("envy", 1, 0, [0, 1]), ("envy", 0, 0, [0, 1]),
            ("envy", -1, 1, [0, 1]), ("envy", 0, 2, [0, 1]), ("envy", 0, 1, [0]), ("envy", 0, 1, [0, 1, 2]),
            ("envy", 0, 1, [1, 1]), ("envy", 0, 1, [0, 0]), ("envy", 0, 1, [0, 2]), ("envy", 0, 1, [-2, 1]),
            ("envy", 0, 1, [0, -1]), ("envy", 0, 1, 1), ("envy", 0, 1, "ab"), ("envy", 0, 1, (0, 1)), ("envy", 0, 1, []),
            ("envy", "ann", "bob", [0, 1]), ("envy", ZERO, ONE, [0, 1]), ("envy", [0], [1], [0, 1]),
            ("envious", 0, 1, [0, 1]), ("orders", 0, [0]), ("part", 0, [0]), ("bound", 0, 1, [0, 1]),
            ("order",), ("order", 0), ("order", 0, []), ("order", 0, [0], 1), ("order", 2, [0]), ("order", -1, [0]),
            ("order", 0, [0, 0]), ("order", 0, [1, 0]), ("order", 0, [2]), ("order", 0, [-1]), ("order", 0, 0),
            ("order", 0, (0, 1)), ("order", "ann", [0]), ("order", ZERO, [0]), ("order", [0], [0]), ("order", 0, "none"),
        ]
        good = [("even",), ("order", 1, [0, 1])]
        for need in bad:
            for at in range(3):
                with self.subTest(need=need, at=at):
                    self.refused(InvalidGame, "needs", needs=good[:at] + [need] + good[at:])

    def test_swaps_of_three_outcomes(self):
        for swap in itertools.product(range(3), repeat=3):
            more = {"outcomes": ["a", "b", "c"], "needs": [("envy", 0, 1, list(swap))]}
            agents = [("ann", [kind_of("low", [0, 1, 2])]), ("bob", [kind_of("low", [0, 1, 2])])]
            if all(swap[swap[at]] == at for at in range(3)):
                self.assertEqual(Game(agents, **more).needs, more["needs"])
            else:
                self.refused(InvalidGame, "needs", agents, **more)

    def test_needs_that_exclude_each_other(self):
        for need in [("part",), ("budget",), ("even",), ("bound", ONE)]:
            self.refused(InvalidGame, "needs", needs=[need, ("order", 0, [0]), need])
        self.refused(InvalidGame, "needs", needs=[("bound", ONE), ("bound", ZERO)])
        agents = agents_of(1, 1, 1)
        pairs = [("envy", 0, 1, [0, 1]), ("envy", 0, 2, [0, 1]), ("envy", 1, 2, [0, 1])]
        self.assertEqual(Game(agents, ["a", "b"], needs=pairs).needs, pairs)
        for first, second in [(0, 1), (0, 2), (1, 2)]:
            self.refused(InvalidGame, "needs", agents, needs=pairs + [("envy", first, second, [1, 0])])
        twice = [("order", 0, [0]), ("order", 0, [0]), ("order", 0, [0, 1]), ("part",), ("budget",), ("even",)]
        self.assertEqual(Game(AGENTS, ["none", "all"], needs=twice).needs, twice)

    def test_two_faults(self):
        faults = {
            "agents": {"name": "Ann"}, "kinds": {"weight": -1}, "outcomes": {"outcomes": ["none", "x y"]},
            "worths": {"worths": [0, 1, 2]}, "aim": {"aim": "most"}, "needs": {"needs": [("none",)]},
        }
        order = list(faults)
        for first, second in itertools.combinations(order, 2):
            parts = {"name": "ann", "weight": 1, "outcomes": ["none", "all"], "worths": [0, 1], "aim": "paid", "needs": []}
            parts.update(faults[first])
            parts.update(faults[second])
            # The fault that comes first in the point stands in the last agent.
            agents = [("bob", [LOW]), (parts["name"], [kind_of("low", parts["worths"], weight=parts["weight"])])]
            self.refused(InvalidGame, first, agents, parts["outcomes"], aim=parts["aim"], needs=parts["needs"])


class Profiles(unittest.TestCase):
    def test_order_and_numbers(self):
        for sizes in [(1,), (4,), (2, 3), (3, 1, 2), (2, 2, 2, 2), (4, 4), (1, 1, 1, 4)]:
            game = Game(agents_of(*sizes), ["a", "b"])
            expected = list(itertools.product(*map(range, sizes)))
            self.assertEqual(profiles(game), expected)
            self.assertEqual([profile_number(game, profile) for profile in expected], list(range(len(expected))))

    def test_tuples_that_are_no_profiles(self):
        game = Game(agents_of(2, 3), ["a", "b"])
        for profile in [(), (0,), (1, 1, 0), (2, 0), (0, 3), (-1, 0), (0, -1), (0, 99), (1, 2, 3, 4)]:
            for function in (profile_number, profile_weight):
                with self.assertRaises(UnknownProfile) as caught:
                    function(game, profile)
                self.assertEqual(caught.exception.profile, profile)

    def test_weights(self):
        agents = [("ann", [kind_of("a", [1], weight=2), kind_of("b", [1], weight=0)]),
                  ("bob", [("a", (1, 3), ZERO, rs(1)), ("b", (3, 4), ZERO, rs(1))])]
        game = Game(agents, ["one"])
        self.assertEqual([profile_weight(game, profile) for profile in profiles(game)],
                         [(2, 3), (3, 2), (0, 1), (0, 1)])

    def test_with_kind(self):
        profile = (0, 1, 2)
        self.assertEqual([with_kind(profile, agent, 7) for agent in range(3)], [(7, 1, 2), (0, 7, 2), (0, 1, 7)])
        self.assertEqual((with_kind(profile, 1, 1), profile), ((0, 1, 2), (0, 1, 2)))
        self.assertEqual(with_kind((3,), 0, 0), (0,))


class EntriesAndRules(unittest.TestCase):
    def test_entries(self):
        plain_game = Game(AGENTS, ["none", "all"])
        paying = Game(AGENTS, ["none", "all"], payments=True)
        drawing = Game(AGENTS, ["none", "all"], lots=True)
        both = Game(AGENTS, ["none", "all"], payments=True, lots=True)
        sure, open_lot = rs(0, 1), [(1, 2), (1, 2)]
        none, some = rs(0, 0), [(-1, 2), (5, 1)]
        for lot, paid, held in [
            (sure, none, (True, True, True, True)), (sure, some, (False, True, False, True)),
            (open_lot, none, (False, False, True, True)), (open_lot, some, (False, False, False, True)),
        ]:
            found = tuple(is_entry(game, (lot, paid)) for game in (plain_game, paying, drawing, both))
            self.assertEqual(found, held)

    def test_faults(self):
        game = Game(AGENTS, ["none", "all"], payments=True, lots=True)
        good = (rs(0, 1), rs(3, -2))
        self.assertIs(is_entry(game, good), True)
        for lot in (rs(1), rs(0, 0, 1), [], rs(2, -1), rs(0, 0), rs(1, 1), [(1, 2), (1, 3)], [(3, 2), (-1, 2)]):
            self.assertIs(is_entry(game, (lot, good[1])), False)
        for paid in (rs(1), [], rs(0, 0, 0)):
            self.assertIs(is_entry(game, (good[0], paid)), False)
        for entry in [(), (good[0],), (*good, []), (good[1], good[0])]:
            self.assertIs(is_entry(game, entry), False)

    def test_a_sure_outcome_is_asked(self):
        game = Game([("ann", [kind_of("a", [1, 2, 3])])], ["a", "b", "c"])
        self.assertEqual([is_entry(game, (rs(*lot), rs(0))) for lot in [(1, 0, 0), (0, 0, 1), (1, 1, -1), (2, -1, 0)]],
                         [True, True, False, False])
        self.assertIs(is_entry(game, ([(1, 3)] * 3, rs(0))), False)

    def test_rules(self):
        game = Game(AGENTS, ["none", "all"], payments=True)
        good = [entry_of([0, 1], [1, 0]), entry_of([1, 0], [0, 0])]
        kept = copy.deepcopy(good)
        self.assertIs(is_rule(game, good), True)
        for rule in [[], good[:1], good + good[:1], [good[0], entry_of([1, 1], [0, 0])], [entry_of([0, 1], [1]), good[1]]]:
            self.assertIs(is_rule(game, rule), False)
        self.assertEqual(good, kept)

    def test_random_rules(self):
        source = seeded(51)
        for _ in range(200):
            game = some_game(source)
            rule = some_rule(source, game, len(profiles(game)))
            self.assertIs(is_rule(game, rule), True)
            at = source.randrange(len(rule))
            lot, paid = copy.deepcopy(rule[at])
            lot[source.randrange(len(lot))] = (7, 3)
            self.assertIs(is_entry(game, (lot, paid)), False)
            self.assertIs(is_rule(game, rule[:at] + [(lot, paid)] + rule[at + 1:]), False)
            self.assertEqual(sum(map(plain, rule[at][0])), 1)


class Same(unittest.TestCase):
    def test_one_part_differs(self):
        parts = {"agents": AGENTS, "outcomes": ["none", "all"], "aim": "total", "payments": False, "lots": False,
                 "needs": [("part",), ("order", 0, [0])]}
        changes = {
            "agents": [
                AGENTS[::-1], AGENTS[:1], [("ann", [HIGH, LOW]), AGENTS[1]], [("amy", [LOW, HIGH]), AGENTS[1]],
                [("ann", [LOW, kind_of("high", [0, 3], weight=2)]), AGENTS[1]],
                [("ann", [LOW, kind_of("high", [0, 3], alone=1)]), AGENTS[1]],
                [("ann", [LOW, kind_of("high", [0, 4])]), AGENTS[1]],
                [("ann", [LOW, kind_of("top", [0, 3])]), AGENTS[1]],
            ],
            "outcomes": [["all", "none"], ["none", "some"]],
            "aim": ["worst", "paid"], "payments": [True], "lots": [True],
            "needs": [[], [("part",)], [("order", 0, [0]), ("part",)], [("part",), ("order", 0, [1])], [("even",)]],
        }
        game = Game(**parts)
        before = state(game)
        self.assertIs(same_game(game, Game(**copy.deepcopy(parts))), True)
        self.assertIs(same_game(game, game), True)
        for name, values in changes.items():
            for value in values:
                other = Game(**{**parts, name: value})
                self.assertIs(same_game(game, other), False, (name, value))
                self.assertIs(same_game(other, game), False)
                self.assertIs(same_game(other, Game(**{**parts, name: value})), True)
        self.assertEqual(state(game), before)


if __name__ == "__main__":
    unittest.main()
