"""Question trees: agents are asked about their kinds until the answers lead to an outcome."""

from unbent.errors import InvalidTree
from unbent.games import profile_number, profiles
from unbent.ratios import sign

_MOST_NODES = 200


def _is_linked(tree):
    """Return True if every node but the root is below exactly one question, an earlier one."""
    above = [0] * len(tree)
    for at, node in enumerate(tree):
        if node[0] == "ask":
            for below in node[3:]:
                if not at < below < len(tree):
                    return False
                above[below] += 1
    return all(count == 1 for count in above[1:])


def _is_part(part, possible):
    """Return True if the part ascends and holds some, but not all, of the possible kinds."""
    if not all(first < second for first, second in zip(part, part[1:])):
        return False
    return 1 <= len(part) < len(possible) and all(kind in possible for kind in part)


def _can_stand(game, node, box):
    """Return True if the node is a question or an end for the game where its box is this one."""
    if node[0] == "ask":
        agent, part = node[1], node[2]
        return 0 <= agent < len(game.agents) and _is_part(part, box[agent])
    outcome, paid = node[1], node[2]
    if not 0 <= outcome < len(game.outcomes) or len(paid) != len(game.agents):
        return False
    return game.payments or all(sign(amount) == 0 for amount in paid)


def whole_box(game):
    """Return the box of the root, in which all kinds are possible."""
    return [list(range(len(kinds))) for _, kinds in game.agents]


def _narrowed(box, agent, possible):
    return [list(possible) if at == agent else list(kinds) for at, kinds in enumerate(box)]


def halves(box, agent, part):
    """Return the boxes behind the answers yes and no to the question whether the kind is in part."""
    inside = [kind for kind in box[agent] if kind in part]
    outside = [kind for kind in box[agent] if kind not in part]
    return _narrowed(box, agent, inside), _narrowed(box, agent, outside)


def _boxes_or_none(game, tree):
    """Return the boxes of the nodes, or None if the list is no tree for the game."""
    if not 1 <= len(tree) <= _MOST_NODES or not _is_linked(tree):
        return None
    found = [whole_box(game) for _ in tree]
    # A question stands before the nodes below it, so its box is known when its turn comes.
    for at, node in enumerate(tree):
        if not _can_stand(game, node, found[at]):
            return None
        if node[0] == "ask":
            found[node[3]], found[node[4]] = halves(found[at], node[1], node[2])
    return found


def is_tree(game, tree):
    """Return True if the list of nodes is a tree for the game."""
    return _boxes_or_none(game, tree) is not None


def boxes(game, tree):
    """Return for each node the list of the kinds of each agent that are possible there."""
    found = _boxes_or_none(game, tree)
    if found is None:
        raise InvalidTree()
    return found


def _path(tree, profile):
    path = [0]
    node = tree[0]
    while node[0] == "ask":
        path.append(node[3] if profile[node[1]] in node[2] else node[4])
        node = tree[path[-1]]
    return path


def play(game, tree, profile):
    """Return the end that the profile reaches, and the list of the nodes on the way to it."""
    if not is_tree(game, tree):
        raise InvalidTree()
    profile_number(game, profile)
    path = _path(tree, profile)
    return path[-1], path


def rule_of(game, tree):
    """Return the rule that the tree carries out."""
    if not is_tree(game, tree):
        raise InvalidTree()
    rule = []
    for profile in profiles(game):
        end = tree[_path(tree, profile)[-1]]
        lot = [(0, 1)] * len(game.outcomes)
        lot[end[1]] = (1, 1)
        rule.append((lot, list(end[2])))
    return rule
