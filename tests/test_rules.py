"""Points 36 to 40: what a rule gives."""

import copy
import itertools
import unittest
from fractions import Fraction

from tests.kit import ONE, ZERO, entry_of, game_of, kind_of, plain, plains, r, rs, seeded, some_game, some_rule, state
from unbent.errors import InvalidLot
from unbent.games import Game, is_rule
from unbent.rules import best_lies, constant, first_lie, gain, has, meets, mixture, unmet, value


class Judge:
    """What a rule gives, judged from the document with Python's own fractions."""

    def __init__(self, game, rule):
        self.game = game
        self.sizes = [len(kinds) for _, kinds in game.agents]
        self.profiles = list(itertools.product(*map(range, self.sizes)))
        self.entries = {profile: (plains(lot), plains(paid)) for profile, (lot, paid) in zip(self.profiles, rule)}

    def kind(self, agent, kind):
        return self.game.agents[agent][1][kind]

    def has(self, agent, kind, profile):
        lot, paid = self.entries[profile]
        return sum(a * b for a, b in zip(lot, plains(self.kind(agent, kind)[3]))) - paid[agent]

    def own(self, agent, profile):
        return self.has(agent, profile[agent], profile)

    def lies(self):
        for agent, size in enumerate(self.sizes):
            for profile in self.profiles:
                for told in range(size):
                    if told != profile[agent]:
                        other = (*profile[:agent], told, *profile[agent + 1:])
                        more = self.has(agent, profile[agent], other) - self.own(agent, profile)
                        yield agent, profile[agent], told, profile, more

    def meets(self, need):
        word, *parts = need
        if word == "part":
            return all(self.own(agent, profile) >= plain(self.kind(agent, profile[agent])[2])
                       for profile in self.profiles for agent in range(len(self.sizes)))
        if word in ("budget", "even"):
            sums = [sum(paid) for _, paid in self.entries.values()]
            return all(amount == 0 or (amount > 0 and word == "budget") for amount in sums)
        if word == "bound":
            return all(abs(amount) <= plain(parts[0]) for _, paid in self.entries.values() for amount in paid)
        if word == "envy":
            return not any(self.envies(*pair, parts[2], profile) for profile in self.profiles
                           for pair in (parts[:2], parts[1::-1]))
        agent, chosen = parts
        return all(
            sum(self.entries[(*profile[:agent], profile[agent] + 1, *profile[agent + 1:])][0][o] for o in chosen)
            >= sum(self.entries[profile][0][o] for o in chosen)
            for profile in self.profiles if profile[agent] + 1 < self.sizes[agent])

    def envies(self, agent, other, swap, profile):
        lot, paid = self.entries[profile]
        worths = plains(self.kind(agent, profile[agent])[3])
        return self.own(agent, profile) < sum(lot[o] * worths[swap[o]] for o in range(len(lot))) - paid[other]

    def value(self):
        amount = Fraction(0)
        if self.game.aim == "worst":
            return min(self.own(agent, profile) for profile in self.profiles for agent in range(len(self.sizes)))
        for profile in self.profiles:
            weight = Fraction(1)
            for agent, kind in enumerate(profile):
                weight *= plain(self.kind(agent, kind)[1])
            lot, paid = self.entries[profile]
            if self.game.aim == "paid":
                amount += weight * sum(paid)
            else:
                for agent, kind in enumerate(profile):
                    amount += weight * sum(a * b for a, b in zip(lot, plains(self.kind(agent, kind)[3])))
        return amount


def some_pairs(many, seed, lots=None):
    source = seeded(seed)
    for _ in range(many):
        game = some_game(source, lots)
        # Weights and amounts alone of all sorts.
        agents = []
        for name, kinds in game.agents:
            agents.append((name, [(kind, r(source.randint(0, 3), 2), r(source.randint(-2, 1)), worths)
                                  for kind, _, _, worths in kinds]))
        game = Game(agents, game.outcomes, aim=game.aim, payments=game.payments, lots=game.lots, needs=game.needs)
        size = 1
        for _, kinds in agents:
            size *= len(kinds)
        yield source, game, some_rule(source, game, size)


class Examples(unittest.TestCase):
    def test_of_the_interface(self):
        low = ("low", (1, 1), (0, 1), [(0, 1), (1, 1)])
        high = ("high", (1, 1), (0, 1), [(0, 1), (3, 1)])
        game = Game([("ann", [low, high])], ["none", "all"], aim="paid", payments=True)
        rule = [([(1, 1), (0, 1)], [(0, 1)]), ([(0, 1), (1, 1)], [(2, 1)])]
        self.assertEqual((has(game, rule, 0, 1, (1,)), value(game, rule)), ((1, 1), (2, 1)))
        self.assertIs(first_lie(game, rule) is None, True)
        free = [([(1, 1), (0, 1)], [(0, 1)]), ([(0, 1), (1, 1)], [(0, 1)])]
        self.assertEqual(first_lie(game, free), (0, 0, 1, (0,), (1, 1)))


class Against(unittest.TestCase):
    """Everything against the judge."""

    def test_has_and_gain(self):
        for _, game, rule in some_pairs(100, 71):
            judge = Judge(game, rule)
            before = state(game), copy.deepcopy(rule)
            for profile in judge.profiles:
                for agent, size in enumerate(judge.sizes):
                    for kind in range(size):
                        self.assertEqual(plain(has(game, rule, agent, kind, profile)), judge.has(agent, kind, profile))
                    self.assertEqual(gain(game, rule, agent, profile[agent], profile), ZERO)
            for agent, _, told, profile, more in judge.lies():
                self.assertEqual(plain(gain(game, rule, agent, told, profile)), more)
            self.assertEqual((state(game), rule), before)

    def test_lies(self):
        truthful = 0
        for _, game, rule in some_pairs(300, 72):
            judge = Judge(game, rule)
            before = state(game), copy.deepcopy(rule)
            lies = [lie for lie in judge.lies() if lie[4] > 0]
            first = first_lie(game, rule)
            truthful += not lies
            self.assertEqual(first, (*lies[0][:4], r(lies[0][4])) if lies else None)
            best = []
            for agent in range(len(judge.sizes)):
                own = [lie for lie in lies if lie[0] == agent]
                top = max(own, key=lambda lie: lie[4], default=None)
                best.append(None if top is None else (*top[:4], r(top[4])))
            self.assertEqual(best_lies(game, rule), best)
            self.assertEqual((state(game), rule), before)
        self.assertGreater(truthful, 20)

    def test_needs(self):
        met = []
        for source, game, rule in some_pairs(400, 73):
            judge = Judge(game, rule)
            before = state(game), copy.deepcopy(rule)
            held = [judge.meets(need) for need in game.needs]
            self.assertEqual([meets(game, rule, need) for need in game.needs], held)
            self.assertEqual(unmet(game, rule), held.index(False) if False in held else None)
            met += [(need[0], found) for need, found in zip(game.needs, held)]
            self.assertEqual((state(game), rule), before)
        for word in ("part", "budget", "even", "bound", "envy", "order"):
            for found in (True, False):
                self.assertGreater(met.count((word, found)), 5, (word, found))

    def test_values(self):
        for _, game, rule in some_pairs(300, 74):
            before = state(game), copy.deepcopy(rule)
            self.assertEqual(plain(value(game, rule)), Judge(game, rule).value())
            self.assertEqual((state(game), rule), before)


class Lies(unittest.TestCase):
    game = game_of([[[0, 1, 5], [0, 3, 3], [1, 0, 2]]], payments=True)

    def test_equal_gains(self):
        # Both of the later kinds give 4 to the first one: the first of several counts.
        rule = [entry_of([1, 0, 0], [0]), entry_of([0, 0, 1], [1]), entry_of([0, 0, 1], [1])]
        self.assertEqual(first_lie(self.game, rule), (0, 0, 1, (0,), r(4)))
        self.assertEqual(best_lies(self.game, rule), [(0, 0, 1, (0,), r(4))])

    def test_a_later_lie_may_be_greater(self):
        rule = [entry_of([1, 0, 0], [0]), entry_of([0, 1, 0], [0]), entry_of([0, 0, 1], [0])]
        self.assertEqual(first_lie(self.game, rule), (0, 0, 1, (0,), r(1)))
        self.assertEqual(best_lies(self.game, rule), [(0, 0, 2, (0,), r(5))])

    def test_gain_of_zero_is_no_lie(self):
        rule = constant(self.game, entry_of([0, 1, 0], [7]))
        self.assertIsNone(first_lie(self.game, rule))
        self.assertEqual(best_lies(self.game, rule), [None])

    def test_agents_come_first(self):
        # Agent 1 lies at the first profile, agent 0 at the last one only.
        game = game_of([[[0, 1], [1, 0]], [[0, 1], [1, 0]]])
        rule = [entry_of([1, 0], [0, 0]), entry_of([0, 1], [0, 0]), entry_of([0, 1], [0, 0]), entry_of([0, 1], [0, 0])]
        judged = [(lie[0], lie[3]) for lie in Judge(game, rule).lies() if lie[4] > 0]
        self.assertEqual((judged[0][0], first_lie(game, rule)[0], first_lie(game, rule)[3]), (0, 0, judged[0][1]))
        self.assertEqual([lie is None for lie in best_lies(game, rule)], [False, False])


class Needs(unittest.TestCase):
    def one(self, need, lot, paid, met, **more):
        game = game_of([[[0, 2, 1]], [[3, 0, 1]]], payments=True, lots=True, needs=[need], **more)
        rule = [(rs(*lot), rs(*paid))]
        self.assertIs(meets(game, rule, need), met)
        self.assertEqual(unmet(game, rule), None if met else 0)

    def test_part(self):
        for alone, met in [(1, True), (Fraction(3, 2), True), (2, False)]:
            game = Game([("ann", [kind_of("a", [0, 2], alone=alone)])], ["none", "all"], payments=True)
            rule = [entry_of([0, 1], [Fraction(1, 2)])]
            self.assertIs(meets(game, rule, ("part",)), met)

    def test_budget_and_even(self):
        for paid, budget, even in [((1, -1), True, True), ((1, 0), True, False), ((0, -1), False, False), ((0, 0), True, True)]:
            self.one(("budget",), [1, 0, 0], paid, budget)
            self.one(("even",), [1, 0, 0], paid, even)

    def test_bound(self):
        for paid, met in [((2, -2), True), ((0, 0), True), ((Fraction(21, 10), 0), False), ((0, -3), False)]:
            self.one(("bound", r(2)), [1, 0, 0], paid, met)
        self.one(("bound", ZERO), [1, 0, 0], (0, 0), True)
        self.one(("bound", ZERO), [1, 0, 0], (0, Fraction(1, 9)), False)

    def test_envy(self):
        need = ("envy", 0, 1, [1, 0, 2])
        # ann has 2 - paid at "two" and would have 0 - what bob pays.
        for lot, paid, met in [([0, 1, 0], (1, -1), False), ([0, 1, 0], (3, 0), False), ([0, 1, 0], (2, 0), False),
                               ([1, 0, 0], (0, 0), False), ([1, 0, 0], (-2, 0), True), ([1, 0, 0], (-3, 0), True),
                               ([0, 0, 1], (0, 0), True), ([0, 0, 1], (1, 0), False), ([0, 0, 1], (0, 1), False)]:
            self.one(need, lot, paid, met)
        game = game_of([[[0, 2]], [[0, 2]]], payments=True)
        self.assertIs(meets(game, [entry_of([0, 1], [0, 0])], ("envy", 0, 1, [0, 1])), True)
        self.assertIs(meets(game, [entry_of([0, 1], [0, 1])], ("envy", 0, 1, [0, 1])), False)

    def test_order(self):
        game = game_of([[[1, 2]] * 3, [[1, 2]] * 2], lots=True)
        chances = [Fraction(k, 12) for k in (1, 2, 5, 2, 5, 9)]
        rule = [entry_of([1 - c, c], [0, 0]) for c in chances]
        self.assertIs(meets(game, rule, ("order", 0, [1])), True)
        self.assertIs(meets(game, rule, ("order", 0, [0])), False)
        self.assertIs(meets(game, rule, ("order", 0, [0, 1])), True)
        self.assertIs(meets(game, rule, ("order", 1, [1])), False)
        rule[4] = entry_of([Fraction(8, 12), Fraction(4, 12)], [0, 0])
        self.assertIs(meets(game, rule, ("order", 0, [1])), False)

    def test_first_unmet(self):
        needs = [("budget",), ("even",), ("bound", ONE), ("part",)]
        game = game_of([[[0, 5]], [[0, 5]]], payments=True, needs=needs)
        for paid, expected in [((0, 0), None), ((1, -1), None), ((1, 0), 1), ((-1, 0), 0), ((2, -2), 2)]:
            self.assertEqual(unmet(game, [entry_of([0, 1], paid)]), expected)
        self.assertEqual(unmet(game, [entry_of([1, 0], (1, -1))]), 3)

    def test_needs_that_are_not_the_game_s(self):
        game = game_of([[[0, 5]], [[0, 5]]], payments=True)
        self.assertIs(meets(game, [entry_of([0, 1], [1, 0])], ("even",)), False)
        self.assertIsNone(unmet(game, [entry_of([0, 1], [1, 0])]))


class Mixtures(unittest.TestCase):
    def test_against_plain_numbers(self):
        for source, game, first in some_pairs(150, 75, lots=True):
            second = some_rule(source, game, len(first))
            before = state(game), copy.deepcopy((first, second))
            for w in (ZERO, ONE, (1, 2), (2, 7)):
                found = mixture(game, first, second, w)
                self.assertTrue(is_rule(game, found))
                for one, two, mixed in zip(first, second, found):
                    for part in (0, 1):
                        expected = [plain(w) * a + (1 - plain(w)) * b for a, b in zip(plains(one[part]), plains(two[part]))]
                        self.assertEqual(plains(mixed[part]), expected)
                amount = plain(w) * plain(value(game, first)) + (1 - plain(w)) * plain(value(game, second))
                if game.aim == "worst":
                    self.assertGreaterEqual(plain(value(game, found)), amount)
                else:
                    self.assertEqual(plain(value(game, found)), amount)
                for need in game.needs:
                    if meets(game, first, need) and meets(game, second, need):
                        self.assertTrue(meets(game, found, need))
                if first_lie(game, first) is None and first_lie(game, second) is None:
                    self.assertIsNone(first_lie(game, found))
            self.assertEqual((state(game), (first, second)), before)
            self.assertEqual(mixture(game, first, second, ONE), first)
            self.assertEqual(mixture(game, first, second, ZERO), second)

    def test_errors(self):
        game = game_of([[[0, 5]]], payments=True, lots=True)
        first, second = [entry_of([0, 1], [1])], [entry_of([1, 0], [0])]
        for w in ((-1, 9), (10, 9), r(2), r(-1)):
            with self.assertRaises(InvalidLot):
                mixture(game, first, second, w)
            with self.assertRaises(InvalidLot):
                mixture(game, first, first, w)

    def test_games_without_lots(self):
        game = game_of([[[0, 5]]], payments=True)
        first, second = [entry_of([0, 1], [1])], [entry_of([1, 0], [0])]
        with self.assertRaises(InvalidLot):
            mixture(game, first, second, (1, 2))
        self.assertEqual(mixture(game, first, second, ONE), first)
        self.assertEqual(mixture(game, first, second, ZERO), second)
        self.assertEqual(mixture(game, first, [entry_of([0, 1], [0])], (1, 2)), [([ZERO, ONE], [(1, 2)])])

    def test_constant(self):
        game = game_of([[[0, 1]] * 2, [[0, 1]] * 3], payments=True, lots=True)
        entry = ([(1, 3), (2, 3)], rs(4, -5))
        found = constant(game, entry)
        self.assertEqual(found, [entry] * 6)
        self.assertIsNone(first_lie(game, found))
        found[0][0][0] = r(9)
        found[0][1][1] = r(9)
        self.assertEqual((found[1:], entry), ([entry] * 5, ([(1, 3), (2, 3)], rs(4, -5))))
        for bad in [(rs(1), rs(0, 0)), (rs(1, 1), rs(0, 0)), (rs(1, 0), rs(0)), (rs(2, -1), rs(0, 0))]:
            with self.assertRaises(InvalidLot):
                constant(game, bad)
        with self.assertRaises(InvalidLot):
            constant(game_of([[[0, 1]]]), (rs(1, 0), rs(1)))
        with self.assertRaises(InvalidLot):
            constant(game_of([[[0, 1]]]), ([(1, 2), (1, 2)], rs(0)))


class Values(unittest.TestCase):
    def test_each_aim(self):
        agents = [("ann", [kind_of("a", [0, 4], weight=2), kind_of("b", [0, 6], weight=0)])]
        rule = [entry_of([0, 1], [1]), entry_of([1, 0], [5])]
        values = {}
        for aim in ("total", "paid", "worst"):
            values[aim] = value(Game(agents, ["none", "all"], aim=aim, payments=True), rule)
        # The second kind never occurs, but it counts for the worst.
        self.assertEqual(values, {"total": r(8), "paid": r(2), "worst": r(-5)})


if __name__ == "__main__":
    unittest.main()
