"""Points 79 to 83: question trees, their boxes, playing them, and their rules."""

import copy
import unittest

from tests.kit import ONE, ZERO, game_of, profiles_in, r, rs, seeded, sizes_of, some_game, some_ratio, some_tree, state
from unbent.errors import InvalidTree, UnknownProfile
from unbent.games import is_rule, profiles
from unbent.obvious import first_doubt
from unbent.vines import boxes, is_tree, play, rule_of


def judged_tree(game, tree):
    """Whether a list is a tree, walked from the root by the words of point 81."""
    if not 1 <= len(tree) <= 200:
        return False
    seen = {}

    def walk(at, box):
        if at in seen:
            return False
        seen[at] = True
        node = tree[at]
        if node[0] == "end":
            _, outcome, paid = node
            return (outcome in range(len(game.outcomes)) and len(paid) == len(game.agents)
                    and (game.payments or all(amount == ZERO for amount in paid)))
        _, agent, part, yes, no = node
        if agent not in range(len(game.agents)) or part != sorted(set(part)):
            return False
        if not set() < set(part) < set(box[agent]):
            return False
        rest = [kind for kind in box[agent] if kind not in part]
        for below, kinds in ((yes, part), (no, rest)):
            if below not in range(at + 1, len(tree)) or not walk(below, box[:agent] + [kinds] + box[agent + 1:]):
                return False
        return True

    return walk(0, [list(range(size)) for size in sizes_of(game)]) and len(seen) == len(tree)


def changed(source, tree):
    """The tree with one thing changed, by which it may still be a tree."""
    nodes = [list(node) for node in copy.deepcopy(tree)]
    node = source.choice(nodes)
    way = source.randrange(8)
    if way == 0:
        nodes.pop(source.randrange(len(nodes)))
    elif way == 1:
        nodes.insert(source.randrange(len(nodes) + 1), copy.deepcopy(node))
    elif way == 2 and len(nodes) > 1:
        first, second = source.sample(range(len(nodes)), 2)
        nodes[first], nodes[second] = nodes[second], nodes[first]
    elif way == 3:
        node[1] = source.randint(-1, 3)
    elif node[0] == "end":
        if way == 4:
            node[2] = node[2] + [ZERO]
        elif way == 5:
            node[2] = node[2][1:]
        else:
            node[2][source.randrange(len(node[2]))] = some_ratio(source)
    elif way in (4, 5):
        node[2] = [source.randint(0, 3) for _ in range(source.randint(0, 3))]
    elif way == 6:
        node[2] = node[2][::-1]
    else:
        node[source.choice((3, 4))] = source.randint(-1, len(nodes))
    return [tuple(node) for node in nodes]


class Trees(unittest.TestCase):
    def setUp(self):
        # Two agents, with three and two kinds, and payments.
        self.game = game_of([[[0, 1], [0, 2], [0, 3]], [[0, 1], [0, 5]]], payments=True)
        self.free = game_of([[[0, 1], [0, 2], [0, 3]], [[0, 1], [0, 5]]])
        self.nothing = [ZERO, ZERO]
        self.tree = [
            ("ask", 0, [1, 2], 1, 4),
            ("ask", 1, [1], 2, 3),
            ("end", 1, [ONE, ZERO]),
            ("end", 0, [ZERO, r(-1)]),
            ("end", 0, [ZERO, ZERO]),
        ]

    def refused(self, game, tree):
        before = copy.deepcopy(tree)
        self.assertIs(is_tree(game, tree), False)
        for call in (boxes, rule_of, first_doubt):
            with self.assertRaises(InvalidTree):
                call(game, tree)
        for profile in ((0, 0), (9, 9), ()):
            with self.assertRaises(InvalidTree):
                play(game, tree, profile)
        self.assertEqual(tree, before)

    def with_node(self, at, node):
        return self.tree[:at] + [node] + self.tree[at + 1:]

    def test_trees(self):
        self.assertIs(is_tree(self.game, self.tree), True)
        self.assertIs(is_tree(self.game, [("end", 1, [r(7), r(-1, 3)])]), True)
        self.assertIs(is_tree(self.free, [("end", 1, [ZERO, ZERO])]), True)
        self.assertIs(is_tree(game_of([[[0]]]), [("end", 0, [ZERO])]), True)
        # Questions may stand in any order, as long as each comes before the nodes below it.
        nodes = [self.tree[0], self.tree[4], self.tree[1], self.tree[3], self.tree[2]]
        nodes[0] = ("ask", 0, [1, 2], 2, 1)
        nodes[2] = ("ask", 1, [1], 4, 3)
        self.assertIs(is_tree(self.game, nodes), True)

    def test_sizes(self):
        self.refused(self.game, [])
        end = ("end", 0, self.nothing)
        for many in (2, 199, 200, 201, 400):
            self.refused(self.game, [end] * many)
        chain = []
        for at in range(100):
            chain += [("ask", 0, [1], 2 * at + 1, 2 * at + 2), end]
        self.refused(self.game, chain)
        self.refused(self.game, chain + [end])

    def test_indexes_of_nodes(self):
        for yes, no in ((1, 5), (1, -1), (5, 4), (-4, 4), (0, 4), (1, 0), (-5, 4), (1, 10 ** 30)):
            self.refused(self.game, self.with_node(0, ("ask", 0, [1, 2], yes, no)))
        # Of no question, of two, twice of one, of a later one, of itself.
        self.refused(self.game, self.tree + [("end", 0, self.nothing)])
        self.refused(self.game, self.with_node(1, ("ask", 1, [1], 2, 4)))
        self.refused(self.game, self.with_node(1, ("ask", 1, [1], 2, 2)))
        self.refused(self.game, [("ask", 0, [1], 1, 1), ("end", 0, self.nothing)])
        self.refused(self.game, self.with_node(1, ("ask", 1, [1], 1, 3)))
        swapped = [("ask", 0, [1, 2], 2, 4), self.tree[3], ("ask", 1, [1], 3, 1), self.tree[2], self.tree[4]]
        self.refused(self.game, swapped)
        # The root below a question.
        self.refused(self.game, self.with_node(1, ("ask", 1, [1], 0, 3)))
        self.refused(self.game, [("ask", 0, [1], 1, 0), ("end", 0, self.nothing)])

    def test_parts(self):
        for part in ([], [2, 1], [1, 1], [1, 1, 2], [0, 1, 2], [3], [1, 3], [-1], [-1, 1], [0, 2, 1]):
            self.refused(self.game, self.with_node(0, ("ask", 0, part, 1, 4)))
        for part in ([0], [1], [2], [0, 1], [0, 2]):
            self.assertIs(is_tree(self.game, self.with_node(0, ("ask", 0, part, 1, 4))), True)
        # A kind that was possible, but is no longer; and all kinds that are left.
        below = [
            ("ask", 0, [0, 1], 1, 4),
            ("ask", 0, [1], 2, 3),
            ("end", 0, self.nothing), ("end", 1, self.nothing), ("end", 1, self.nothing),
        ]
        self.assertIs(is_tree(self.game, below), True)
        for part in ([2], [1, 2], [0, 1], [0, 2]):
            self.refused(self.game, [below[0], ("ask", 0, part, 2, 3)] + below[2:])

    def test_agents_and_outcomes(self):
        for agent in (-1, 2, 10):
            self.refused(self.game, self.with_node(0, ("ask", agent, [1], 1, 4)))
        for outcome in (-1, 2, 10):
            self.refused(self.game, self.with_node(4, ("end", outcome, self.nothing)))

    def test_payments(self):
        for paid in ([], [ZERO], [ZERO, ZERO, ZERO]):
            self.refused(self.game, self.with_node(4, ("end", 0, paid)))
            self.refused(self.free, [("end", 0, paid)])
        self.refused(self.free, self.tree)
        self.refused(self.free, [("end", 0, [ZERO, r(1, 2)])])
        self.refused(self.free, [("end", 0, [r(-1), ONE])])

    def test_against_the_judge(self):
        source = seeded(201)
        found = []
        for _ in range(800):
            game = some_game(source)
            tree = some_tree(source, game)
            self.assertTrue(judged_tree(game, tree))
            self.assertIs(is_tree(game, tree), True)
            other = changed(source, tree)
            before = state(game), copy.deepcopy(other)
            found.append(judged_tree(game, other))
            self.assertIs(is_tree(game, other), found[-1], (state(game), other))
            self.assertEqual((state(game), other), before)
        self.assertGreater(found.count(True), 100)
        self.assertGreater(found.count(False), 100)


class Playing(unittest.TestCase):
    def setUp(self):
        self.game = game_of([[[0, 1], [0, 2], [0, 3]], [[0, 1], [0, 5]]], payments=True)
        self.tree = [
            ("ask", 0, [1, 2], 1, 6),
            ("ask", 1, [1], 2, 5),
            ("ask", 0, [2], 3, 4),
            ("end", 1, [ONE, ZERO]),
            ("end", 0, [ZERO, r(-1)]),
            ("end", 1, [r(1, 2), r(1, 2)]),
            ("end", 0, [ZERO, ZERO]),
        ]

    def test_boxes(self):
        self.assertEqual(boxes(self.game, self.tree), [
            [[0, 1, 2], [0, 1]],
            [[1, 2], [0, 1]],
            [[1, 2], [1]],
            [[2], [1]],
            [[1], [1]],
            [[1, 2], [0]],
            [[0], [0, 1]],
        ])
        self.assertEqual(boxes(self.game, [("end", 0, [ZERO, ZERO])]), [[[0, 1, 2], [0, 1]]])

    def test_boxes_are_new_lists(self):
        found = boxes(self.game, self.tree)
        for box in found:
            for kinds in box:
                kinds.append(9)
        self.assertEqual(self.tree[0][2], [1, 2])
        self.assertEqual(boxes(self.game, self.tree)[0], [[0, 1, 2], [0, 1]])

    def test_paths(self):
        paths = {
            (0, 0): [0, 6], (0, 1): [0, 6], (1, 0): [0, 1, 5], (1, 1): [0, 1, 2, 4],
            (2, 0): [0, 1, 5], (2, 1): [0, 1, 2, 3],
        }
        for profile, path in paths.items():
            self.assertEqual(play(self.game, self.tree, profile), (path[-1], path))
        self.assertEqual(play(self.game, [("end", 0, [ZERO, ZERO])], (2, 1)), (0, [0]))

    def test_tuples_that_are_no_profiles(self):
        for profile in ((), (0,), (0, 0, 0), (3, 0), (0, 2), (-1, 0), (0, -1), (10 ** 5000, 0), ("a", 0), (0, None)):
            with self.assertRaises(UnknownProfile) as caught:
                play(self.game, self.tree, profile)
            self.assertEqual(caught.exception.profile, profile)

    def test_rule(self):
        nobody = rs(1, 0), [ZERO, ZERO]
        self.assertEqual(rule_of(self.game, self.tree), [
            nobody, nobody,
            (rs(0, 1), [r(1, 2), r(1, 2)]), (rs(1, 0), [ZERO, r(-1)]),
            (rs(0, 1), [r(1, 2), r(1, 2)]), (rs(0, 1), [ONE, ZERO]),
        ])

    def test_the_rule_is_a_new_list(self):
        rule = rule_of(self.game, self.tree)
        rule[0][1][0] = ONE
        rule[2][0][0] = ONE
        self.assertEqual(self.tree[6], ("end", 0, [ZERO, ZERO]))
        self.assertEqual(rule[1], (rs(1, 0), [ZERO, ZERO]))
        self.assertEqual(rule[4][0], rs(0, 1))

    def test_random_trees(self):
        source = seeded(202)
        for _ in range(200):
            game = some_game(source)
            tree = some_tree(source, game)
            before = state(game), copy.deepcopy(tree)
            found = boxes(game, tree)
            rule = rule_of(game, tree)
            self.assertTrue(is_rule(game, rule))
            reached = {at: [] for at in range(len(tree))}
            for profile, (lot, paid) in zip(profiles(game), rule):
                end, path = play(game, tree, profile)
                self.assertEqual((path[0], path[-1]), (0, end))
                self.assertEqual(tree[end], ("end", lot.index(ONE), paid))
                self.assertEqual(len(lot), len(game.outcomes))
                for question, below in zip(path, path[1:]):
                    _, agent, part, yes, no = tree[question]
                    self.assertEqual(below, yes if profile[agent] in part else no)
                for at in path:
                    reached[at].append(profile)
            # The profiles that come through a node are exactly those in its box.
            for at, box in enumerate(found):
                self.assertEqual(reached[at], profiles_in(box))
                self.assertTrue(all(kinds == sorted(kinds) and kinds for kinds in box))
            self.assertEqual((state(game), tree), before)


if __name__ == "__main__":
    unittest.main()
