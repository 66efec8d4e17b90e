"""Points 84 to 88: doubts, obvious trees, allowed splits, and growing trees."""

import copy
import itertools
import unittest

from tests.kit import (
    ONE, ZERO, entry_of, flat, game_of, plain, profile_count_of, profiles_in, r, seeded, sizes_of, some_game, some_rule,
    some_tree, state,
)
from unbent.errors import InvalidBox, NotPlain
from unbent.games import profile_number
from unbent.obvious import allowed, first_doubt, grow, is_plain, is_stuck
from unbent.pivots import pivot_rule
from unbent.rules import constant, first_lie, has
from unbent.vines import boxes, is_tree, play, rule_of


def judged_doubts(game, tree):
    """All doubts in order. The ends that can be reached are those of the profiles in a box."""
    found = boxes(game, tree)

    def given(box, agent, kind):
        for profile in profiles_in(box):
            _, outcome, paid = tree[play(game, tree, profile)[0]]
            yield plain(game.agents[agent][1][kind][3][outcome]) - plain(paid[agent])

    for at, node in enumerate(tree):
        if node[0] == "end":
            continue
        _, agent, part, yes, no = node
        for kind in found[at][agent]:
            true, other = (yes, no) if kind in part else (no, yes)
            own = found[true][:agent] + [[kind]] + found[true][agent + 1:]
            worst = min(given(own, agent, kind))
            best = max(given(found[other], agent, kind))
            if worst < best:
                yield at, kind, r(worst), r(best)


def splits_of(kinds):
    """The parts that hold the least kind, by the sum of 2 to the power of each kind."""
    parts = []
    for size in range(1, len(kinds)):
        for chosen in itertools.combinations(kinds, size):
            if kinds[0] in chosen:
                parts.append(list(chosen))
    return sorted(parts, key=lambda part: sum(2 ** kind for kind in part))


def judged_allowed(game, rule, box, agent, part):
    for kind in box[agent]:
        own, other = [], []
        for profile in profiles_in(box):
            amount = plain(has(game, rule, agent, kind, profile))
            if profile[agent] == kind:
                own.append(amount)
            elif (profile[agent] in part) != (kind in part):
                other.append(amount)
        if min(own) < max(other):
            return False
    return True


def entries_in(game, rule, box):
    return [rule[profile_number(game, profile)] for profile in profiles_in(box)]


def judged_splits(game, rule, box):
    """The allowed splits of a box in which the rule is not constant, in order."""
    for agent, kinds in enumerate(box):
        for part in splits_of(kinds):
            if judged_allowed(game, rule, box, agent, part):
                yield agent, part


def judged_growth(game, rule):
    """Growing by recursion: ("tree", nodes) or ("stuck", box)."""
    nodes = []

    def grown(box):
        entries = entries_in(game, rule, box)
        at = len(nodes)
        if all(entry == entries[0] for entry in entries):
            nodes.append(("end", entries[0][0].index(ONE), entries[0][1]))
            return None
        split = next(judged_splits(game, rule, box), None)
        if split is None:
            return box
        agent, part = split
        nodes.append(None)
        places = []
        for kinds in (part, [kind for kind in box[agent] if kind not in part]):
            places.append(len(nodes))
            stuck = grown(box[:agent] + [kinds] + box[agent + 1:])
            if stuck is not None:
                return stuck
        nodes[at] = ("ask", agent, part, *places)
        return None

    stuck = grown([list(range(size)) for size in sizes_of(game)])
    return ("tree", nodes) if stuck is None else ("stuck", stuck)


def all_trees(game, rule, box):
    """Every tree with the rule that asks nothing more where the rule is constant, nested."""
    entries = entries_in(game, rule, box)
    if all(entry == entries[0] for entry in entries):
        yield ("end", entries[0][0].index(ONE), entries[0][1])
        return
    for agent, kinds in enumerate(box):
        for part in splits_of(kinds):
            rest = [kind for kind in kinds if kind not in part]
            for yes in all_trees(game, rule, box[:agent] + [part] + box[agent + 1:]):
                for no in all_trees(game, rule, box[:agent] + [rest] + box[agent + 1:]):
                    yield ("ask", agent, part, yes, no)


def small_rule(source, game):
    """A plain rule with few different entries, so that some trees exist."""
    entries = some_rule(source, game, 3)
    return [copy.deepcopy(source.choice(entries)) for _ in range(profile_count_of(game))]


class Doubts(unittest.TestCase):
    def test_an_obvious_tree_and_a_doubt(self):
        # A price of 2 for a thing that is worth 1 or 3.
        game = game_of([[[0, 1], [0, 3]]], payments=True)
        ends = [("end", 1, [r(2)]), ("end", 0, [ZERO])]
        self.assertIsNone(first_doubt(game, [("ask", 0, [1], 1, 2)] + ends))
        self.assertIsNone(first_doubt(game, [ends[0]]))
        # Where the low kind gets the thing, each kind has a doubt, and the least comes first.
        self.assertEqual(first_doubt(game, [("ask", 0, [0], 1, 2)] + ends), (0, 0, r(-1), ZERO))
        free = [("ask", 0, [1], 1, 2), ("end", 1, [r(0)]), ("end", 0, [ZERO])]
        self.assertEqual(first_doubt(game, free), (0, 0, ZERO, ONE))
        dear = [("ask", 0, [1], 1, 2), ("end", 1, [r(4)]), ("end", 0, [ZERO])]
        self.assertEqual(first_doubt(game, dear), (0, 1, r(-1), ZERO))

    def test_equal_amounts_are_no_doubt(self):
        game = game_of([[[0, 1], [0, 3]]], payments=True)
        for price in (1, 2, 3):
            tree = [("ask", 0, [1], 1, 2), ("end", 1, [r(price)]), ("end", 0, [ZERO])]
            self.assertIsNone(first_doubt(game, tree))

    def test_what_others_answer_counts_in_both_ways(self):
        # The first agent is sure of nothing: the worst of the truth is what the second one leaves.
        game = game_of([[[0, 1], [0, 3]], [[0, 0], [0, 1]]], payments=True)
        nothing = [ZERO, ZERO]
        tree = [
            ("ask", 0, [1], 1, 4),
            ("ask", 1, [1], 2, 3),
            ("end", 1, nothing), ("end", 0, nothing),
            ("ask", 1, [0], 5, 6),
            ("end", 0, nothing), ("end", 1, [r(2), ZERO]),
        ]
        self.assertEqual(first_doubt(game, tree), (0, 0, r(-1), ONE))
        # And the kind 1 has a doubt, too: 0 against 1.
        self.assertEqual([doubt[:2] for doubt in judged_doubts(game, tree)][:2], [(0, 0), (0, 1)])

    def test_later_questions_to_the_same_agent(self):
        # Kind 1 goes on to answer truthfully, so what kind 2 would get behind yes does not count.
        game = game_of([[[0, 1], [0, 4], [0, 6]]], payments=True)
        tree = [
            ("ask", 0, [1, 2], 1, 4),
            ("ask", 0, [2], 2, 3),
            ("end", 0, [r(-1)]), ("end", 1, [r(2)]), ("end", 0, [ZERO]),
        ]
        self.assertEqual(list(judged_doubts(game, tree)), [(0, 0, ZERO, ONE), (1, 2, ONE, r(4))])
        self.assertEqual(first_doubt(game, tree), (0, 0, ZERO, ONE))
        # Behind the other answer everything counts, also what only a second lie reaches.
        tree[4] = ("end", 0, [r(-1)])
        tree[2] = ("end", 1, [r(2)])
        tree[3] = ("end", 1, [r(3)])
        self.assertEqual(first_doubt(game, tree), (1, 1, ONE, r(2)))

    def test_doubts_are_ordered_by_nodes(self):
        # The same questions in two orders of the nodes: the doubt of the earlier node comes first.
        game = game_of([[[0, 1], [0, 2], [0, 3], [0, 4]]], payments=True)
        ends = [("end", 0, [r(at)]) for at in (3, 1, 5, 2)]
        tree = [("ask", 0, [0, 1], 1, 2), ("ask", 0, [0], 3, 4), ("ask", 0, [2], 5, 6)] + ends
        doubts = list(judged_doubts(game, tree))
        self.assertEqual(first_doubt(game, tree), doubts[0])
        self.assertEqual([doubt[:2] for doubt in doubts][-2:], [(1, 0), (2, 2)])
        # Without a doubt at the root the first of the later ones counts.
        flat_ends = [("end", 0, [r(at)]) for at in (3, 3, 3, 2)]
        tree = [("ask", 0, [0, 1], 2, 1), ("ask", 0, [2], 3, 4), ("ask", 0, [0], 5, 6)]
        tree += [flat_ends[0], flat_ends[3], flat_ends[1], flat_ends[2]]
        self.assertEqual(first_doubt(game, tree), (0, 0, r(-3), r(-2)))

    def test_against_the_judge(self):
        source = seeded(211)
        found = []
        for _ in range(1500):
            game = some_game(source)
            tree = some_tree(source, game)
            before = state(game), copy.deepcopy(tree)
            doubt = next(judged_doubts(game, tree), None)
            self.assertEqual(first_doubt(game, tree), doubt)
            self.assertEqual((state(game), tree), before)
            found.append(doubt)
            if doubt is None:
                # A tree without a doubt has a truthful rule, as going through all lies shows.
                self.assertIsNone(first_lie(game, rule_of(game, tree)))
        self.assertGreater(found.count(None), 100)
        self.assertGreater(len([doubt for doubt in found if doubt is not None and doubt[0] > 0]), 10)


class Plain(unittest.TestCase):
    def test_plain_rules(self):
        game = game_of([[[0, 1], [0, 3]]], lots=True, payments=True)
        sure = entry_of([0, 1], [2])
        mixed = ([r(1, 2), r(1, 2)], [ZERO])
        self.assertIs(is_plain([sure, sure]), True)
        self.assertIs(is_plain([sure, entry_of([1, 0], [0])]), True)
        self.assertIs(is_plain([sure, mixed]), False)
        self.assertIs(is_plain([mixed, mixed]), False)
        for rule in ([sure, mixed], [mixed, sure], [mixed, mixed]):
            with self.assertRaises(NotPlain):
                grow(game, rule)
        self.assertEqual(grow(game, [sure, sure]), ("tree", [("end", 1, [r(2)])]))


class Splits(unittest.TestCase):
    def test_random_splits(self):
        source = seeded(212)
        found = []
        for _ in range(300):
            game = some_game(source, lots=False)
            rule = small_rule(source, game)
            box = [sorted(source.sample(range(size), source.randint(1, size))) for size in sizes_of(game)]
            agents = [agent for agent, kinds in enumerate(box) if len(kinds) > 1]
            if not agents:
                continue
            agent = source.choice(agents)
            part = sorted(source.sample(box[agent], source.randint(1, len(box[agent]) - 1)))
            before = state(game), copy.deepcopy((rule, box, part))
            found.append(allowed(game, rule, box, agent, part))
            self.assertIs(found[-1], judged_allowed(game, rule, box, agent, part))
            # The split is the same with its two sides exchanged.
            rest = [kind for kind in box[agent] if kind not in part]
            self.assertIs(allowed(game, rule, box, agent, rest), found[-1])
            self.assertEqual((state(game), (rule, box, part)), before)
        self.assertGreater(found.count(True), 40)
        self.assertGreater(found.count(False), 40)

    def test_equal_amounts_are_allowed(self):
        game = game_of([[[0, 1], [0, 3]]], payments=True)
        for price, expected in ((0, False), (1, True), (2, True), (3, True), (4, False)):
            rule = [entry_of([1, 0], [0]), entry_of([0, 1], [price])]
            self.assertIs(allowed(game, rule, [[0, 1]], 0, [0]), expected)

    def test_stuck(self):
        game = game_of([[[0, 1], [0, 3]]], payments=True)
        free = [entry_of([1, 0], [0]), entry_of([0, 1], [0])]
        fair = [entry_of([1, 0], [0]), entry_of([0, 1], [2])]
        self.assertIs(is_stuck(game, free, [[0, 1]]), True)
        self.assertIs(is_stuck(game, free, [[0]]), False)
        self.assertIs(is_stuck(game, free, [[1]]), False)
        self.assertIs(is_stuck(game, fair, [[0, 1]]), False)
        self.assertIs(is_stuck(game, constant(game, free[1]), [[0, 1]]), False)

    def test_boxes_that_are_none(self):
        game = game_of([[[0, 1], [0, 2], [0, 3]], [[0, 1], [0, 3]]])
        rule = constant(game, entry_of([1, 0], [0, 0]))
        self.assertIs(is_stuck(game, rule, [[0, 2], [1]]), False)
        wrong = [
            [], [[0]], [[0], [0], [0]], [[], [0]], [[0], []], [[1, 0], [0]], [[0, 0], [0]], [[0, 1, 1], [0]],
            [[3], [0]], [[0], [2]], [[-1], [0]], [[-1, 0], [0]], [(0,), [0]], ([0], [0]), None, "ab", 7,
            [0, 1], [[True], [0]], [["a"], [0]], [[0], None], {0: [0], 1: [0]}, [[0], [0, 1, 2]],
        ]
        for box in wrong:
            with self.assertRaises(InvalidBox):
                is_stuck(game, rule, box)

    def test_random_boxes(self):
        source = seeded(213)
        found = []
        for _ in range(400):
            game = some_game(source, lots=False)
            rule = small_rule(source, game)
            box = [sorted(source.sample(range(size), source.randint(1, size))) for size in sizes_of(game)]
            entries = entries_in(game, rule, box)
            changes = any(entry != entries[0] for entry in entries)
            found.append(changes and next(judged_splits(game, rule, box), None) is None)
            self.assertIs(is_stuck(game, rule, box), found[-1])
        self.assertGreater(found.count(True), 40)


class Growing(unittest.TestCase):
    def test_a_tree_node_by_node(self):
        # Two bidders; the second one is asked at each price first, and the first one pays at last.
        game = game_of([[[0, 1, 0], [0, 3, 0]], [[0, 0, 2], [0, 0, 4]]], payments=True)
        rule = [
            entry_of([0, 0, 1], [0, 1]), entry_of([0, 0, 1], [0, 1]),
            entry_of([0, 1, 0], [2, 0]), entry_of([0, 0, 1], [0, 3]),
        ]
        self.assertEqual(grow(game, rule), ("tree", [
            ("ask", 0, [0], 1, 2),
            ("end", 2, [ZERO, ONE]),
            ("ask", 1, [0], 3, 4),
            ("end", 1, [r(2), ZERO]),
            ("end", 2, [ZERO, r(3)]),
        ]))

    def test_a_constant_rule_is_an_end(self):
        game = game_of([[[0, 1], [0, 3]], [[1, 2], [3, 4]]], payments=True)
        self.assertEqual(grow(game, constant(game, entry_of([0, 1], [5, -1]))), ("tree", [("end", 1, [r(5), r(-1)])]))

    def test_the_order_of_the_splits(self):
        # Nobody minds anything, so each split is allowed and the first one is taken.
        game = game_of([[[0, 0]] * 4])
        one, two = entry_of([1, 0], [0]), entry_of([0, 1], [0])
        self.assertEqual(grow(game, [one, two, one, two]), ("tree", [
            ("ask", 0, [0], 1, 2),
            ("end", 0, [ZERO]),
            ("ask", 0, [1], 3, 4),
            ("end", 1, [ZERO]),
            ("ask", 0, [2], 5, 6),
            ("end", 0, [ZERO]),
            ("end", 1, [ZERO]),
        ]))
        self.assertEqual(splits_of([0, 1, 2, 3]), [[0], [0, 1], [0, 2], [0, 1, 2], [0, 3], [0, 1, 3], [0, 2, 3]])

    def test_a_later_part_is_taken_if_the_first_one_is_not_allowed(self):
        # The kinds 0 and 1 cannot be told apart first, because of what the second agent may change.
        game = game_of([[[2, 0, -1], [2, 0, -1], [0, 0, 5]], [[0, 0, 0], [0, 0, 0]]])
        one, two, three = [entry_of(lot, [0, 0]) for lot in ([1, 0, 0], [0, 1, 0], [0, 0, 1])]
        self.assertEqual(grow(game, [one, two, one, two, three, three]), ("tree", [
            ("ask", 0, [0, 1], 1, 4),
            ("ask", 1, [0], 2, 3),
            ("end", 0, [ZERO, ZERO]),
            ("end", 1, [ZERO, ZERO]),
            ("end", 2, [ZERO, ZERO]),
        ]))
        # And with three agents of whom only the last one may be asked first.
        game = game_of([[[0, 0], [0, 1]], [[0, 1], [0, 1]], [[0, 3], [3, 0]]])
        rule = [entry_of([1, 0] if at % 2 else [0, 1], [0, 0, 0]) for at in range(8)]
        self.assertEqual(grow(game, rule)[1][0], ("ask", 2, [0], 1, 2))

    def test_the_box_at_which_growing_is_stuck(self):
        game = game_of([[[0, 1], [0, 3]]], payments=True)
        self.assertEqual(grow(game, [entry_of([1, 0], [0]), entry_of([0, 1], [0])]), ("stuck", [[0, 1]]))
        # The first agent can be asked, but where it is of its second kind nothing goes on.
        game = game_of([[[0, 0], [0, 0]], [[0, 1], [0, 3]]], payments=True)
        nobody = entry_of([1, 0], [0, 0])
        rule = [nobody, nobody, nobody, entry_of([0, 1], [0, 0])]
        self.assertEqual(grow(game, rule), ("stuck", [[1], [0, 1]]))
        # Both sides are stuck: the yes side is reached first.
        rule = [nobody, entry_of([0, 1], [0, 0]), nobody, entry_of([0, 1], [0, 0])]
        self.assertEqual(grow(game, rule), ("stuck", [[0], [0, 1]]))

    def test_a_truthful_rule_without_an_obvious_tree(self):
        # A shared project with the pivot rule: who turns the outcome pays what that costs the other.
        game = game_of([[[0, -1], [0, 1]], [[0, -2], [0, 1]]], payments=True)
        self.assertIsNone(first_lie(game, pivot_rule(game)))
        self.assertEqual(grow(game, pivot_rule(game)), ("stuck", [[0, 1], [0, 1]]))

    def test_against_the_judge(self):
        source = seeded(214)
        kinds = []
        for _ in range(1500):
            game = some_game(source, lots=False)
            rule = small_rule(source, game)
            before = state(game), copy.deepcopy(rule)
            found = grow(game, rule)
            self.assertEqual(found, judged_growth(game, rule))
            self.assertEqual((state(game), rule), before)
            kinds.append(found[0])
            if found[0] == "tree":
                tree = found[1]
                self.assertIs(is_tree(game, tree), True)
                self.assertIsNone(first_doubt(game, tree))
                self.assertEqual(rule_of(game, tree), rule)
                self.assertIsNone(first_lie(game, rule))
                if len(tree) > 1:
                    kinds.append("question")
            else:
                self.assertIs(is_stuck(game, rule, found[1]), True)
        self.assertGreater(kinds.count("question"), 40)
        self.assertGreater(kinds.count("stuck"), 40)

    def test_growing_finds_a_tree_exactly_if_there_is_one(self):
        source = seeded(215)
        kinds = []
        for _ in range(150):
            worths = source.choice(([2], [3], [2, 2], [3, 2]))
            game = game_of([[[source.randint(-1, 2) for _ in range(2)] for _ in range(size)] for size in worths],
                           payments=source.random() < 0.5)
            rule = small_rule(source, game)
            exists = False
            for tree in all_trees(game, rule, [list(range(size)) for size in worths]):
                nodes = flat(tree)
                self.assertEqual(rule_of(game, nodes), rule)
                if first_doubt(game, nodes) is None:
                    exists = True
                    break
            kinds.append(grow(game, rule)[0])
            self.assertEqual(kinds[-1], "tree" if exists else "stuck")
        self.assertGreater(kinds.count("tree"), 20)
        self.assertGreater(kinds.count("stuck"), 20)

    def test_the_payments_of_an_end_are_a_new_list(self):
        game = game_of([[[0, 1], [0, 3]]], payments=True)
        rule = [entry_of([1, 0], [0]), entry_of([0, 1], [2])]
        _, tree = grow(game, rule)
        tree[2][2].append(ZERO)
        self.assertEqual(rule[1], entry_of([0, 1], [2]))


if __name__ == "__main__":
    unittest.main()
