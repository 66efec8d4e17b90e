"""Points 121 to 123: reports of rules, of their differences, and of machines."""

import copy
import unittest

from tests.kit import ZERO, entry_of, game_of, plain, r, rs, seeded, some_game_and_rule, some_rule, profile_count_of, state
from unbent.games import Game, profiles, with_kind
from unbent.machines import Machines
from unbent.reports import difference_report, machines_report, rule_report
from unbent.rules import best_lies, constant, has, meets, value


def text(number):
    """The text of a fraction, written by Python's own class."""
    return str(plain(number))


class Examples(unittest.TestCase):
    def test_of_the_interface(self):
        low = ("low", (1, 1), (0, 1), [(0, 1), (1, 1)])
        high = ("high", (1, 1), (0, 1), [(0, 1), (3, 1)])
        game = Game([("ann", [low, high])], ["none", "all"], aim="paid", payments=True)
        rule = [([(1, 1), (0, 1)], [(0, 1)]), ([(0, 1), (1, 1)], [(2, 1)])]
        self.assertEqual(rule_report(game, rule),
                         ["value 2", "at low lot 1 0 pays 0 has 0", "at high lot 0 1 pays 2 has 1", "straight"])
        free = [([(1, 1), (0, 1)], [(0, 1)]), ([(0, 1), (1, 1)], [(0, 1)])]
        self.assertEqual(rule_report(game, free)[-1], "lie ann low high at low gains 1")
        self.assertEqual(difference_report(game, rule, free), ["at high 2", "value -2"])
        self.assertEqual(machines_report(Machines()), ["machine 0 0 same", "machine 1 0 same", "machine 2 0 same"])


def judged_rule(game, rule):
    lines = ["value " + text(value(game, rule))]
    for profile, (lot, paid) in zip(profiles(game), rule):
        words = ["at"] + [game.agents[agent][1][kind][0] for agent, kind in enumerate(profile)]
        words += ["lot"] + [text(chance) for chance in lot]
        if game.payments:
            words += ["pays"] + [text(amount) for amount in paid]
        words += ["has"] + [text(has(game, rule, agent, kind, profile)) for agent, kind in enumerate(profile)]
        lines.append(" ".join(words))
    faults = []
    for agent, (name, kinds) in enumerate(game.agents):
        best = None
        for profile in profiles(game):
            for told in range(len(kinds)):
                before = plain(has(game, rule, agent, profile[agent], profile))
                gain = plain(has(game, rule, agent, profile[agent], with_kind(profile, agent, told))) - before
                if gain > 0 and (best is None or gain > best[0]):
                    best = (gain, profile, told)
        if best is not None:
            gain, profile, told = best
            names = " ".join(game.agents[other][1][kind][0] for other, kind in enumerate(profile))
            faults.append(f"lie {name} {kinds[profile[agent]][0]} {kinds[told][0]} at {names} gains {gain}")
    faults += [f"unmet {at}" for at, need in enumerate(game.needs) if not meets(game, rule, need)]
    return lines + (faults or ["straight"])


def judged_difference(game, first, second):
    lines = []
    for profile, one, two in zip(profiles(game), first, second):
        if one != two:
            words = ["at"] + [game.agents[agent][1][kind][0] for agent, kind in enumerate(profile)]
            for agent, kind in enumerate(profile):
                more = plain(has(game, second, agent, kind, profile)) - plain(has(game, first, agent, kind, profile))
                words.append(str(more))
            lines.append(" ".join(words))
    return lines + [f"value {plain(value(game, second)) - plain(value(game, first))}"]


class Rules(unittest.TestCase):
    def test_without_payments(self):
        game = game_of([[[0, 1], [2, 1]], [[1, 0]]], outcomes=["left", "right"])
        rule = [entry_of([0, 1], [0, 0]), entry_of([1, 0], [0, 0])]
        self.assertEqual(rule_report(game, rule), [
            "value 4", "at a a lot 0 1 has 1 0", "at b a lot 1 0 has 2 1", "straight"])

    def test_lots_and_fractions(self):
        game = game_of([[[0, 1], [2, 1]]], lots=True, payments=True, aim="worst")
        rule = [(rs("1/3", "2/3"), [r(-1, 2)]), (rs("1/3", "2/3"), [r(-1, 2)])]
        self.assertEqual(rule_report(game, rule), [
            "value 7/6", "at a lot 1/3 2/3 pays -1/2 has 7/6", "at b lot 1/3 2/3 pays -1/2 has 11/6", "straight"])

    def test_the_value_for_each_aim(self):
        rule = [entry_of([1, 0], [1]), entry_of([0, 1], [-3])]
        for aim, expected in (("total", "value 4"), ("paid", "value -2"), ("worst", "value -1")):
            game = game_of([[[0, 1], [2, 4]]], payments=True, aim=aim)
            self.assertEqual(rule_report(game, rule)[0], expected)

    def test_lies_of_several_agents(self):
        # The first agent gains most by its third lie; the second one gains by two equal lies.
        game = game_of([[[0, 1], [0, 3]], [[0, 2], [0, 2]]], payments=True, needs=[("part",), ("budget",), ("bound", r(5))])
        rule = [
            entry_of([1, 0], [0, 0]), entry_of([0, 1], [0, 0]),
            entry_of([0, 1], [-2, 1]), entry_of([0, 1], [-9, -1]),
        ]
        self.assertEqual(rule_report(game, rule)[-4:], [
            "lie ann a b at a b gains 9", "lie bob a b at a a gains 2", "unmet 1", "unmet 2"])
        # An agent without a lie has no line.
        rule[0] = entry_of([0, 1], [0, 0])
        rule[2] = entry_of([0, 1], [0, 0])
        rule[3] = entry_of([0, 1], [0, 1])
        self.assertEqual(rule_report(game, rule)[-1], "lie bob b a at b b gains 1")

    def test_needs_that_are_not_met(self):
        needs = [("even",), ("part",), ("bound", r(1)), ("budget",)]
        game = game_of([[[0, 1]]], payments=True, needs=needs)
        for paid, expected in ((0, ["straight"]), (1, ["unmet 0"]), (2, ["unmet 0", "unmet 1", "unmet 2"]),
                               (-1, ["unmet 0", "unmet 3"]), (-2, ["unmet 0", "unmet 2", "unmet 3"])):
            self.assertEqual(rule_report(game, constant(game, entry_of([0, 1], [paid])))[2:], expected)

    def test_random_rules(self):
        source = seeded(311)
        ends = []
        for _ in range(200):
            game, rule = some_game_and_rule(source)
            if source.random() < 0.2:
                rule = constant(game, rule[0])
            before = state(game), copy.deepcopy(rule)
            report = rule_report(game, rule)
            self.assertEqual(report, judged_rule(game, rule))
            self.assertEqual((state(game), rule), before)
            lies = [lie for lie in best_lies(game, rule) if lie is not None]
            self.assertEqual(len([line for line in report if line.startswith("lie")]), len(lies))
            ends.append(report[-1].split(" ")[0])
        for word in ("lie", "unmet", "straight"):
            self.assertGreater(ends.count(word), 10)


class Differences(unittest.TestCase):
    def setUp(self):
        self.game = game_of([[[0, 1], [0, 3]], [[0, 2]]], payments=True, aim="paid")
        self.rule = [entry_of([1, 0], [0, 0]), entry_of([0, 1], [1, 1])]

    def test_no_entry_one_and_all(self):
        self.assertEqual(difference_report(self.game, self.rule, copy.deepcopy(self.rule)), ["value 0"])
        one = [self.rule[0], entry_of([0, 1], [2, 0])]
        self.assertEqual(difference_report(self.game, self.rule, one), ["at b a -1 1", "value 0"])
        self.assertEqual(difference_report(self.game, one, self.rule), ["at b a 1 -1", "value 0"])
        every = [entry_of([0, 1], [0, 5]), (rs(1, 0), [r(1, 2), ZERO])]
        self.assertEqual(difference_report(self.game, self.rule, every),
                         ["at a a 1 -3", "at b a -5/2 -1", "value 7/2"])

    def test_entries_that_differ_and_give_the_same(self):
        # Nobody has more or less, but the entry is another one.
        game = game_of([[[1, 1], [0, 3]]], payments=True)
        first = [entry_of([1, 0], [0]), entry_of([0, 1], [0])]
        second = [entry_of([0, 1], [0]), entry_of([0, 1], [0])]
        self.assertEqual(difference_report(game, first, second), ["at a 0", "value 0"])

    def test_random_rules(self):
        source = seeded(312)
        for _ in range(200):
            game, first = some_game_and_rule(source)
            second = some_rule(source, game, profile_count_of(game))
            for at, entry in enumerate(first):
                if source.random() < 0.4:
                    second[at] = copy.deepcopy(entry)
            before = state(game), copy.deepcopy((first, second))
            self.assertEqual(difference_report(game, first, second), judged_difference(game, first, second))
            self.assertEqual((state(game), (first, second)), before)


class Apart:
    """Machines that were never so: lists that are told, None for a machine that is stopped."""

    def __init__(self, lists):
        self.lists = lists

    def is_running(self, machine):
        return self.lists[machine] is not None

    def list_of(self, machine):
        return list(self.lists[machine])


class ThreeMachines(unittest.TestCase):
    def test_stopped_behind_and_level(self):
        machines = Machines()
        for line in ("x", "y"):
            machines.hand(0, line)
        machines.fail(2, 0)
        machines.settle()
        self.assertEqual(machines_report(machines), ["machine 0 2 same", "machine 1 2 same", "machine 2 stopped"])
        machines.start(2)
        self.assertEqual(machines_report(machines), ["machine 0 2 same", "machine 1 2 same", "machine 2 0 same"])
        machines.urge(2)
        machines.settle(most=3)
        before = machines.letters(), [machines.journal_text(machine) for machine in range(3)]
        self.assertRegex(machines_report(machines)[2], "^machine 2 [01] same$")
        self.assertEqual((machines.letters(), [machines.journal_text(machine) for machine in range(3)]), before)
        machines.urge(2)
        machines.settle()
        machines.urge(2)
        machines.settle()
        self.assertEqual(machines_report(machines), ["machine 0 2 same", "machine 1 2 same", "machine 2 2 same"])
        for machine in range(3):
            machines.fail(machine, 0)
        self.assertEqual(machines_report(machines), [f"machine {machine} stopped" for machine in range(3)])

    def test_lists_that_are_apart(self):
        for lists, words in (
                ([["a"], ["a", "b"], ["a", "b", "c"]], ["1 same", "2 same", "3 same"]),
                ([["b"], ["a", "b"], ["a", "b", "c"]], ["1 apart", "2 same", "3 same"]),
                ([["a"], ["a", "x"], ["a", "b", "c"]], ["1 same", "2 apart", "3 same"]),
                ([["a"], ["x", "b"], ["a", "b", "c"]], ["1 apart", "2 apart", "3 same"]),
                # Equally long lists are not longer, and stopped machines do not count.
                ([["a"], ["b"], []], ["1 same", "1 same", "0 same"]),
                ([["a"], ["b", "c"], None], ["1 apart", "2 same", "stopped"]),
                ([["a"], None, None], ["1 same", "stopped", "stopped"])):
            self.assertEqual(machines_report(Apart(lists)), [f"machine {at} {word}" for at, word in enumerate(words)])


if __name__ == "__main__":
    unittest.main()
