"""Points 44 to 49: the program of a game, its points and good rules."""

import copy
import itertools
import unittest
from fractions import Fraction

from tests.kit import ONE, ZERO, entry_of, game_of, judged_fit, kind_of, plain, plains, r, rs, seeded, some_game, \
    some_ratio, some_rule, state
from tests.test_rules import Judge, some_pairs
from unbent.errors import TooLarge
from unbent.games import Game, is_rule
from unbent.model import is_good, point_of, program_of, rule_at, whole_variables
from unbent.programs import Program, fits, value_of
from unbent.rules import constant, value

ALL_NEEDS = [("part",), ("budget",), ("even",), ("bound", (3, 2)), ("envy", 0, 1, [1, 0]), ("order", 0, [1])]


class JudgedProgram:
    """The program of a game, judged from the document: every sum is a dict of named variables."""

    def __init__(self, game):
        self.game = game
        self.sizes = [len(kinds) for _, kinds in game.agents]
        self.agents = range(len(self.sizes))
        self.outcomes = range(len(game.outcomes))
        self.profiles = list(itertools.product(*map(range, self.sizes)))
        self.names = []
        for profile in self.profiles:
            self.names += [("chance", profile, o) for o in self.outcomes]
            if game.payments:
                self.names += [("pay", profile, a) for a in self.agents]
        if game.aim == "worst":
            self.names.append("floor")

    def numbers(self, *parts):
        """The list of numbers of a sum of (factor, name); payments that do not exist are left out."""
        found = [Fraction(0)] * len(self.names)
        for factor, name in parts:
            if name[0] != "pay" or self.game.payments:
                found[self.names.index(name)] += factor
        return [r(number) for number in found]

    def worths(self, agent, kind):
        return plains(self.game.agents[agent][1][kind][3])

    def has(self, agent, kind, profile, factor=1):
        parts = [(factor * self.worths(agent, kind)[o], ("chance", profile, o)) for o in self.outcomes]
        return parts + [(-factor, ("pay", profile, agent))]

    def goal(self):
        parts = []
        if self.game.aim == "worst":
            return self.numbers((1, "floor"))
        for profile in self.profiles:
            weight = Fraction(1)
            for agent, kind in enumerate(profile):
                weight *= plain(self.game.agents[agent][1][kind][1])
            for agent, kind in enumerate(profile):
                if self.game.aim == "paid":
                    parts.append((weight, ("pay", profile, agent)))
                else:
                    parts += [(weight * self.worths(agent, kind)[o], ("chance", profile, o)) for o in self.outcomes]
        return self.numbers(*parts)

    def rows(self):
        for profile in self.profiles:
            yield self.numbers(*[(1, ("chance", profile, o)) for o in self.outcomes]), "exactly", ONE
        for agent in self.agents:
            for profile in self.profiles:
                for told in range(self.sizes[agent]):
                    if told != profile[agent]:
                        other = (*profile[:agent], told, *profile[agent + 1:])
                        kind = profile[agent]
                        parts = self.has(agent, kind, profile) + self.has(agent, kind, other, -1)
                        yield self.numbers(*parts), "at least", ZERO
        if self.game.aim == "worst":
            for profile in self.profiles:
                for agent in self.agents:
                    yield self.numbers(*self.has(agent, profile[agent], profile), (-1, "floor")), "at least", ZERO
        for need in self.game.needs:
            yield from self.need_rows(*need)

    def need_rows(self, word, *parts):
        for profile in self.profiles:
            if word == "part":
                for agent, kind in enumerate(profile):
                    yield self.numbers(*self.has(agent, kind, profile)), "at least", self.game.agents[agent][1][kind][2]
            if word in ("budget", "even"):
                sign = "at least" if word == "budget" else "exactly"
                yield self.numbers(*[(1, ("pay", profile, a)) for a in self.agents]), sign, ZERO
            if word == "bound":
                for agent in self.agents:
                    yield self.numbers((1, ("pay", profile, agent))), "at most", parts[0]
                    yield self.numbers((1, ("pay", profile, agent))), "at least", r(-plain(parts[0]))
            if word == "envy":
                yield self.envy_row(parts[0], parts[1], parts[2], profile)
                yield self.envy_row(parts[1], parts[0], parts[2], profile)
            if word == "order" and profile[parts[0]] + 1 < self.sizes[parts[0]]:
                agent, chosen = parts
                higher = (*profile[:agent], profile[agent] + 1, *profile[agent + 1:])
                sums = [(1, ("chance", higher, o)) for o in chosen] + [(-1, ("chance", profile, o)) for o in chosen]
                yield self.numbers(*sums), "at least", ZERO

    def envy_row(self, agent, other, swap, profile):
        worths = self.worths(agent, profile[agent])
        parts = self.has(agent, profile[agent], profile)
        parts += [(-worths[swap[o]], ("chance", profile, o)) for o in self.outcomes]
        return self.numbers(*parts, (1, ("pay", profile, other))), "at least", ZERO

    def whole(self):
        return [at for at, name in enumerate(self.names) if name[0] == "chance" and not self.game.lots]


def check(test, game):
    """The program of the game is the judged one."""
    judged = JudgedProgram(game)
    before = state(game)
    item = program_of(game)
    test.assertEqual(item.variables, len(judged.names))
    test.assertEqual(item.free, [name == "floor" or name[0] == "pay" for name in judged.names])
    test.assertEqual(item.goal, judged.goal())
    test.assertEqual(item.rows, list(judged.rows()))
    test.assertEqual(whole_variables(game), judged.whole())
    test.assertEqual(state(game), before)


def one_agent(**more):
    low = kind_of("low", [1, "1/2"], "2/3", -1)
    high = kind_of("high", [0, 3], 2, "1/4")
    return Game([("ann", [low, high])], ["none", "all"], **more)


def two_agents(**more):
    low = kind_of("low", [1, "1/2"], "2/3", -1)
    high = kind_of("high", [0, 3], 2, "1/4")
    last = kind_of("last", [-2, 5], 1, 1)
    return Game([("ann", [low, high]), ("bob", [high, low, last])], ["none", "all"], **more)


class Examples(unittest.TestCase):
    def test_of_the_interface(self):
        low = ("low", (1, 1), (0, 1), [(0, 1), (0, 1)])
        high = ("high", (1, 1), (0, 1), [(0, 1), (3, 1)])
        game = Game([("ann", [low, high])], ["none", "all"], payments=True, aim="paid", needs=[("part",)])
        item = program_of(game)
        self.assertEqual(
            (item.variables, len(item.rows), item.goal),
            (6, 6, [(0, 1), (0, 1), (1, 1), (0, 1), (0, 1), (1, 1)]))
        self.assertEqual(whole_variables(game), [0, 1, 3, 4])


class WrittenOut(unittest.TestCase):
    """Programs that were written down by hand."""

    def test_one_agent_with_payments(self):
        item = program_of(one_agent(payments=True, needs=[("part",), ("budget",), ("bound", ONE), ("order", 0, [1])]))
        self.assertIsInstance(item, Program)
        self.assertEqual((item.variables, item.free), (6, [False, False, True] * 2))
        self.assertEqual(item.goal, rs("2/3", "1/3", 0, 0, 6, 0))
        self.assertEqual(item.rows, [
            (rs(1, 1, 0, 0, 0, 0), "exactly", ONE),
            (rs(0, 0, 0, 1, 1, 0), "exactly", ONE),
            (rs(1, "1/2", -1, -1, "-1/2", 1), "at least", ZERO),
            (rs(0, -3, 1, 0, 3, -1), "at least", ZERO),
            (rs(1, "1/2", -1, 0, 0, 0), "at least", r(-1)),
            (rs(0, 0, 0, 0, 3, -1), "at least", r("1/4")),
            (rs(0, 0, 1, 0, 0, 0), "at least", ZERO),
            (rs(0, 0, 0, 0, 0, 1), "at least", ZERO),
            (rs(0, 0, 1, 0, 0, 0), "at most", ONE),
            (rs(0, 0, 1, 0, 0, 0), "at least", r(-1)),
            (rs(0, 0, 0, 0, 0, 1), "at most", ONE),
            (rs(0, 0, 0, 0, 0, 1), "at least", r(-1)),
            (rs(0, -1, 0, 0, 1, 0), "at least", ZERO),
        ])

    def test_one_agent_without_payments(self):
        # The rows about payments have no factor other than 0.
        game = one_agent(aim="worst", lots=True, needs=[("even",), ("bound", ONE), ("budget",)])
        item = program_of(game)
        self.assertEqual((item.variables, item.free), (5, [False, False, False, False, True]))
        self.assertEqual(item.goal, rs(0, 0, 0, 0, 1))
        blank = rs(0, 0, 0, 0, 0)
        self.assertEqual(item.rows, [
            (rs(1, 1, 0, 0, 0), "exactly", ONE),
            (rs(0, 0, 1, 1, 0), "exactly", ONE),
            (rs(1, "1/2", -1, "-1/2", 0), "at least", ZERO),
            (rs(0, -3, 0, 3, 0), "at least", ZERO),
            (rs(1, "1/2", 0, 0, -1), "at least", ZERO),
            (rs(0, 0, 0, 3, -1), "at least", ZERO),
            (blank, "exactly", ZERO), (blank, "exactly", ZERO),
            (blank, "at most", ONE), (blank, "at least", r(-1)),
            (blank, "at most", ONE), (blank, "at least", r(-1)),
            (blank, "at least", ZERO), (blank, "at least", ZERO),
        ])
        self.assertEqual(whole_variables(game), [])

    def test_envy(self):
        ann, bob = ("ann", [kind_of("a", [1, 2, 4])]), ("bob", [kind_of("b", [3, 0, 7])])
        item = program_of(Game([ann, bob], ["x", "y", "z"], payments=True, needs=[("envy", 0, 1, [2, 1, 0])]))
        self.assertEqual(item.rows[1:], [
            (rs(-3, 0, 3, -1, 1), "at least", ZERO),
            (rs(-4, 0, 4, 1, -1), "at least", ZERO),
        ])


class EveryGame(unittest.TestCase):
    def test_of_one_and_two_agents(self):
        games = 0
        for payments, lots, aim in itertools.product((False, True), (False, True), ("total", "worst", "paid")):
            for build in (one_agent, two_agents):
                few = [need for need in ALL_NEEDS if need[0] != "envy" or build is two_agents]
                for needs in [[], few, few[::-1], *([need] for need in few)]:
                    check(self, build(payments=payments, lots=lots, aim=aim, needs=needs))
                    games += 1
        self.assertEqual(games, 12 * (8 + 9))

    def test_at_random(self):
        for _, game, _ in some_pairs(300, 701):
            check(self, game)

    def test_limits(self):
        pair = [kind_of("a", [0] * 6), kind_of("b", [0] * 6)]
        agents = [(name, pair) for name in ("ann", "bob", "cid", "dan")]
        outcomes = ["a", "b", "c", "d", "e", "f"]
        self.assertEqual(program_of(Game(agents, outcomes, payments=True)).variables, 160)
        with self.assertRaises(TooLarge):
            program_of(Game(agents, outcomes, payments=True, aim="worst"))
        envies = [("envy", a, b, list(range(6))) for a, b in itertools.combinations(range(4), 2)]
        needs = [("bound", ONE), *envies]
        self.assertEqual(len(program_of(Game(agents, outcomes, needs=needs)).rows), 400)
        with self.assertRaises(TooLarge):
            program_of(Game(agents, outcomes, needs=[*needs, ("order", 3, [0])]))


class Points(unittest.TestCase):
    def test_point_written_out(self):
        rule = [entry_of([1, 0], [2]), entry_of([0, 1], ["1/2"])]
        self.assertEqual(point_of(one_agent(payments=True), rule), rs(1, 0, 2, 0, 1, "1/2"))
        self.assertEqual(point_of(one_agent(payments=True, aim="worst"), rule), rs(1, 0, 2, 0, 1, "1/2", -1))
        free = [entry_of([1, 0], [0]), entry_of([0, 1], [0])]
        self.assertEqual(point_of(one_agent(), free), rs(1, 0, 0, 1))
        self.assertEqual(point_of(one_agent(aim="worst"), free), rs(1, 0, 0, 1, 1))

    def test_rule_written_out(self):
        self.assertEqual(rule_at(one_agent(payments=True), rs(1, 0, 2, 0, 1, "1/2")),
                         [entry_of([1, 0], [2]), entry_of([0, 1], ["1/2"])])
        self.assertEqual(rule_at(one_agent(aim="worst"), rs(1, 0, 0, 1, 9)),
                         [entry_of([1, 0], [0]), entry_of([0, 1], [0])])
        self.assertEqual(rule_at(two_agents(), rs(*range(12)))[5], entry_of([10, 11], [0, 0]))

    def test_points_that_are_no_rules(self):
        game = one_agent(payments=True)
        rule = rule_at(game, rs(-3, "1/2", 2, 7, 7, 0))
        self.assertEqual(rule, [entry_of([-3, "1/2"], [2]), entry_of([7, 7], [0])])
        self.assertFalse(is_rule(game, rule))

    def test_there_and_back(self):
        for _, game, rule in some_pairs(200, 702):
            before = state(game), copy.deepcopy(rule)
            point = point_of(game, rule)
            item = program_of(game)
            self.assertEqual(len(point), item.variables)
            self.assertEqual(value_of(item, point), value(game, rule))
            kept = copy.deepcopy(point)
            again = rule_at(game, point)
            self.assertEqual(again, rule)
            self.assertEqual(point_of(game, again), point)
            # The lists are new ones.
            again[0][0][0] = again[0][1][0] = None
            self.assertEqual((state(game), rule, point), (*before, kept))
            if game.aim == "worst":
                self.assertEqual(plain(point[-1]), Judge(game, rule).value())
                self.assertEqual(rule_at(game, point[:-1] + [r(99)]), rule)


class Good(unittest.TestCase):
    def test_against_all_lies_and_needs(self):
        found = []
        for source, game, rule in some_pairs(500, 703):
            if source.random() < 0.4:
                rule = constant(game, rule[0])
            judge = Judge(game, rule)
            good = not any(lie[4] > 0 for lie in judge.lies()) and all(judge.meets(need) for need in game.needs)
            before = state(game), copy.deepcopy(rule)
            self.assertIs(is_good(game, rule), good)
            item = program_of(game)
            point = point_of(game, rule)
            self.assertIs(fits(item, point), good)
            self.assertIs(judged_fit(item, point), good)
            self.assertEqual((state(game), rule), before)
            found.append(good)
        self.assertGreater(found.count(True), 50)
        self.assertGreater(found.count(False), 50)

    def test_a_lie_alone_and_a_need_alone(self):
        game = game_of([[[0, 1], [1, 0]]], needs=[("order", 0, [0])])
        straight = [entry_of([0, 1], [0]), entry_of([1, 0], [0])]
        self.assertTrue(is_good(game, straight))
        self.assertFalse(is_good(game, straight[::-1]))
        self.assertFalse(is_good(game_of([[[0, 1], [1, 0]]], needs=[("order", 0, [1])]), straight))
        self.assertFalse(is_good(game_of([[[0, 1], [1, 1]]]), straight[::-1]))

    def test_points_that_fit_give_good_rules(self):
        # The floor may be lower than the worst amount, so the goal is at most the value.
        source = seeded(704)
        fitting = 0
        for _ in range(300):
            game = some_game(source)
            sizes = [len(kinds) for _, kinds in game.agents]
            rule = some_rule(source, game, len(list(itertools.product(*map(range, sizes)))))
            if source.random() < 0.7:
                rule = constant(game, rule[0])
            point = point_of(game, rule)
            if game.aim == "worst":
                point[-1] = r(plain(point[-1]) + plain(some_ratio(source)))
            item = program_of(game)
            if fits(item, point):
                fitting += 1
                self.assertTrue(is_good(game, rule_at(game, point)))
                if game.aim == "worst":
                    self.assertLessEqual(plain(value_of(item, point)), plain(value(game, rule)))
                else:
                    self.assertEqual(value_of(item, point), value(game, rule))
            elif is_good(game, rule):
                self.assertEqual(game.aim, "worst")
                self.assertGreater(plain(value_of(item, point)), plain(value(game, rule)))
        self.assertGreater(fitting, 40)


if __name__ == "__main__":
    unittest.main()
