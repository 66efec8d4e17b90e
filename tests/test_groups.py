"""Points 41 to 43: lies of groups, draws and audits."""

import copy
import itertools
import unittest
from fractions import Fraction

from tests.kit import ONE, ZERO, entry_of, game_of, r, seeded, some_game, some_rule, state
from tests.test_rules import Judge
from unbent.errors import InvalidCount, InvalidLot, InvalidTicket, UnknownProfile
from unbent.groups import audit, drawn, first_joint_lie
from unbent.ratios import make
from unbent.rules import constant, first_lie


class Examples(unittest.TestCase):
    def test_of_the_interface(self):
        lot = [(1, 2), (1, 3), (1, 6)]
        self.assertEqual((drawn(lot, (0, 1)), drawn(lot, (1, 2)), drawn(lot, (5, 6))), (0, 1, 2))
        with self.assertRaises(InvalidTicket):
            drawn(lot, (1, 1))


def judged_joint_lies(game, rule):
    judge = Judge(game, rule)
    for number in range(2 ** len(judge.sizes)):
        members = tuple(agent for agent in range(len(judge.sizes)) if number >> agent & 1)
        if len(members) < 2:
            continue
        for profile in judge.profiles:
            for told in itertools.product(*[range(judge.sizes[agent]) for agent in members]):
                changed = list(profile)
                for agent, kind in zip(members, told):
                    changed[agent] = kind
                changed = tuple(changed)
                if changed != profile and all(
                        judge.has(agent, profile[agent], changed) > judge.own(agent, profile) for agent in members):
                    yield members, profile, told


class JointLies(unittest.TestCase):
    def test_against_the_judge(self):
        source = seeded(81)
        found = []
        for _ in range(300):
            game = some_game(source)
            size = 1
            for _, kinds in game.agents:
                size *= len(kinds)
            rule = some_rule(source, game, size)
            before = state(game), copy.deepcopy(rule)
            expected = next(judged_joint_lies(game, rule), None)
            self.assertEqual(first_joint_lie(game, rule), expected)
            self.assertEqual((state(game), rule), before)
            found.append(expected)
        self.assertGreater(found.count(None), 30)
        self.assertGreater(len(found) - found.count(None), 30)

    def test_order_of_the_groups(self):
        # Two agents who both tell their second kind turn the outcome for everybody.
        def rule(pair):
            return [entry_of([0, 1] if all(profile[agent] for agent in pair) else [1, 0], [0] * 4)
                    for profile in itertools.product((0, 1), repeat=4)]
        game = game_of([[[0, 1], [0, 1]]] * 4)
        for pair in itertools.combinations(range(4), 2):
            members, profile, told = first_joint_lie(game, rule(pair))
            self.assertEqual((members, profile, told), next(judged_joint_lies(game, rule(pair))))
        self.assertEqual(first_joint_lie(game, rule((0, 1))), ((0, 1), (0, 0, 0, 0), (1, 1)))
        self.assertEqual(first_joint_lie(game, rule((0, 2))), ((0, 1), (0, 0, 1, 0), (1, 0)))
        self.assertEqual(first_joint_lie(game, rule((2, 3))), ((0, 2), (0, 0, 0, 1), (0, 1)))

    def test_a_member_may_tell_its_own_kind(self):
        game = game_of([[[0, 1]], [[0, 1], [0, 1]]])
        rule = [entry_of([1, 0], [0, 0]), entry_of([0, 1], [0, 0])]
        self.assertEqual(first_joint_lie(game, rule), ((0, 1), (0, 0), (0, 1)))

    def test_each_member_must_have_more(self):
        game = game_of([[[0, 0]], [[0, 1], [0, 1]]])
        rule = [entry_of([1, 0], [0, 0]), entry_of([0, 1], [0, 0])]
        self.assertIsNone(first_joint_lie(game, rule))

    def test_a_truthful_rule_may_have_one(self):
        # Nobody moves the outcome alone, but two together do.
        game = game_of([[[0, 1], [0, 1]]] * 2, lots=True)
        quarter = [entry_of([1, 0], [0, 0])] * 3 + [entry_of([0, 1], [0, 0])]
        self.assertIsNotNone(first_lie(game, quarter))
        paying = game_of([[[0, 1], [0, 1]]] * 2, payments=True)
        rule = [entry_of([0, 1], [2, 2]), entry_of([0, 1], [1, 2]), entry_of([0, 1], [2, 1]), entry_of([0, 1], [1, 1])]
        self.assertIsNone(first_lie(paying, rule))
        self.assertEqual(first_joint_lie(paying, rule), ((0, 1), (0, 0), (1, 1)))

    def test_one_agent(self):
        game = game_of([[[0, 1], [0, 1]]])
        self.assertIsNone(first_joint_lie(game, [entry_of([1, 0], [0]), entry_of([0, 1], [0])]))


class Draws(unittest.TestCase):
    def test_edges(self):
        lot = [ZERO, (1, 3), ZERO, (1, 2), (1, 6), ZERO]
        kept = list(lot)
        for ticket, outcome in [((0, 1), 1), ((1, 4), 1), ((33, 100), 1), ((1, 3), 3), ((1, 2), 3), ((4, 5), 3), ((5, 6), 4),
                                ((999, 1000), 4)]:
            self.assertEqual(drawn(lot, ticket), outcome)
        self.assertEqual(lot, kept)
        for at in range(3):
            sure = [ONE if place == at else ZERO for place in range(3)]
            self.assertEqual([drawn(sure, make(k, 7)) for k in range(7)], [at] * 7)

    def test_tickets_of_equal_parts(self):
        source = seeded(82)
        for _ in range(60):
            counts = [source.randint(0, 4) for _ in range(source.randint(1, 6))]
            counts[-1] += sum(counts) == 0
            n = sum(counts)
            outcomes = [drawn([make(k, n) for k in counts], make(k, n)) for k in range(n)]
            self.assertEqual([outcomes.count(at) for at in range(len(counts))], counts)
            self.assertEqual(outcomes, sorted(outcomes))

    def test_errors(self):
        for lot in ([], [ZERO], [(1, 2)], [(1, 2), (1, 3)], [ONE, ONE], [(3, 2), (-1, 2)], [(-1, 2), (3, 2)], [r(2), r(-1)]):
            for ticket in (ZERO, (1, 2), ONE, r(-1)):
                with self.assertRaises(InvalidLot):
                    drawn(lot, ticket)
        for ticket in (ONE, (-1, 9), r(2), r(-3), (1001, 1000)):
            with self.assertRaises(InvalidTicket):
                drawn([(1, 2), (1, 2)], ticket)


class Audits(unittest.TestCase):
    def judged(self, game, rule, record):
        totals = {}
        for agent, kind, told, profile, more in Judge(game, rule).lies():
            many = sum(count for reported, count in record if reported == profile)
            totals.setdefault((agent, kind), {}).setdefault(told, Fraction(0))
            totals[agent, kind][told] += many * more
        found = []
        for (agent, kind), sums in sorted(totals.items()):
            best = max(sums.values())
            if best > 0:
                found.append((agent, kind, min(told for told in sums if sums[told] == best), r(best)))
        return found

    def test_against_the_judge(self):
        source = seeded(83)
        seen = 0
        for _ in range(300):
            game = some_game(source)
            every = list(itertools.product(*[range(len(kinds)) for _, kinds in game.agents]))
            rule = some_rule(source, game, len(every))
            record = [(source.choice(every), source.choice((0, 1, 1, 2, 7))) for _ in range(source.randint(0, 6))]
            before = state(game), copy.deepcopy((rule, record))
            found = audit(game, rule, record)
            seen += len(found)
            self.assertEqual(found, self.judged(game, rule, record))
            self.assertEqual((state(game), (rule, record)), before)
            if first_lie(game, rule) is None:
                self.assertEqual(found, [])
        self.assertGreater(seen, 100)

    game = game_of([[[0, 1], [0, 3], [0, 5]]], payments=True)
    # The last kind pays 2, the others may have the same for less.
    rule = [entry_of([0, 1], [1]), entry_of([0, 1], [1]), entry_of([0, 1], [2])]

    def test_equal_totals(self):
        self.assertEqual(audit(self.game, self.rule, [((2,), 3)]), [(0, 2, 0, r(3))])

    def test_profiles_that_occur_twice(self):
        self.assertEqual(audit(self.game, self.rule, [((2,), 3), ((0,), 5), ((2,), 4)]), [(0, 2, 0, r(7))])

    def test_counts_of_zero(self):
        self.assertEqual(audit(self.game, self.rule, [((2,), 0), ((1,), 5)]), [])
        self.assertEqual(audit(self.game, self.rule, []), [])

    def test_losses_count_too(self):
        # A lie gains at one profile and loses more at another one.
        game = game_of([[[0, 1], [0, 1]], [[0, 0], [0, 0]]], payments=True)
        rule = [entry_of([0, 1], [3, 0]), entry_of([0, 1], [0, 0]), entry_of([0, 1], [1, 0]), entry_of([0, 1], [5, 0])]
        self.assertEqual(audit(game, rule, [((0, 0), 1)]), [(0, 0, 1, r(2))])
        self.assertEqual(audit(game, rule, [((0, 0), 3), ((0, 1), 1)]), [(0, 0, 1, r(1))])
        self.assertEqual(audit(game, rule, [((0, 0), 5), ((0, 1), 2)]), [])
        self.assertEqual(audit(game, rule, [((0, 0), 1), ((0, 1), 1)]), [])

    def test_errors_in_their_order(self):
        for record, profile in [([((3,), 1)], (3,)), ([((0,), 1), ((0, 0), 1), ((9,), 1)], (0, 0)), ([((), 0)], ()),
                                ([((0,), -1), ((-1,), 1)], (-1,))]:
            with self.assertRaises(UnknownProfile) as caught:
                audit(self.game, self.rule, record)
            self.assertEqual(caught.exception.profile, profile)
        for record in ([((0,), -1)], [((0,), 1), ((2,), -5)]):
            with self.assertRaises(InvalidCount):
                audit(self.game, self.rule, record)

    def test_truthful_rules(self):
        rule = constant(self.game, entry_of([0, 1], [4]))
        self.assertEqual(audit(self.game, rule, [((0,), 5), ((1,), 0), ((2,), 10 ** 20)]), [])


if __name__ == "__main__":
    unittest.main()
