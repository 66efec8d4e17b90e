"""Obvious question trees, in which the truth is best whatever others do later, and growing them."""

from unbent.errors import InvalidBox, NotPlain
from unbent.games import profile_number, tuples_of
from unbent.ratios import compare, greatest_index, is_int, least_index, subtract
from unbent.rules import has
from unbent.vines import boxes, halves, whole_box


def _ends(tree, start, agent, kind):
    """Return the ends behind the node that can be reached while the agent answers for the kind.

    The others answer anything. If agent is None, all answer anything.
    """
    found = []
    waiting = [start]
    while waiting:
        node = tree[waiting.pop()]
        if node[0] == "end":
            found.append(node)
        elif node[1] == agent:
            waiting.append(_answered(node, kind)[0])
        else:
            waiting.extend(node[3:])
    return found


def _answered(question, kind):
    """Return the nodes behind the true answer of the kind and behind the other one."""
    if kind in question[2]:
        return question[3], question[4]
    return question[4], question[3]


def _given(game, ends, agent, kind):
    """Return what each of the ends gives to the agent of the kind."""
    worths = game.agents[agent][1][kind][3]
    return [subtract(worths[outcome], paid[agent]) for _, outcome, paid in ends]


def _amounts(game, tree, question, kind):
    """Return the worst of the true answer and the best of the other one."""
    agent = question[1]
    truth, other = _answered(question, kind)
    honest = _given(game, _ends(tree, truth, agent, kind), agent, kind)
    lying = _given(game, _ends(tree, other, None, kind), agent, kind)
    return honest[least_index(honest)], lying[greatest_index(lying)]


def first_doubt(game, tree):
    """Return the first doubt as (node, kind, worst, best), or None if the tree is obvious."""
    found = boxes(game, tree)
    for at, node in enumerate(tree):
        if node[0] == "ask":
            for kind in found[at][node[1]]:
                worst, best = _amounts(game, tree, node, kind)
                if compare(worst, best) < 0:
                    return at, kind, worst, best
    return None


def is_plain(rule):
    """Return True if at each profile one of the chances of the rule is 1."""
    return all((1, 1) in lot for lot, _ in rule)


def _had(game, rule, box, agent, kind, told):
    """Return what the agent of the kind has at the profiles in the box with one of the told kinds."""
    return [has(game, rule, agent, kind, profile) for profile in tuples_of(box) if profile[agent] in told]


def allowed(game, rule, box, agent, part):
    """Return True if no kind of the agent could have more on the other side of the split."""
    for kind in box[agent]:
        other = [told for told in box[agent] if (told in part) != (kind in part)]
        honest = _had(game, rule, box, agent, kind, [kind])
        lying = _had(game, rule, box, agent, kind, other)
        if compare(honest[least_index(honest)], lying[greatest_index(lying)]) < 0:
            return False
    return True


def _parts(kinds):
    """Return the parts of the kinds that hold the least one, but not all of them."""
    # Ascending numbers, with a binary digit for each later kind, give ascending sums of powers of 2.
    found = []
    for number in range((1 << (len(kinds) - 1)) - 1):
        found.append([kind for at, kind in enumerate(kinds) if at == 0 or (number >> (at - 1)) & 1 == 1])
    return found


def _first_split(game, rule, box):
    """Return the first split of the box that is allowed as (agent, part), or None."""
    for agent, kinds in enumerate(box):
        for part in _parts(kinds):
            if allowed(game, rule, box, agent, part):
                return agent, part
    return None


def _is_constant(game, rule, box):
    entries = [rule[profile_number(game, profile)] for profile in tuples_of(box)]
    return all(entry == entries[0] for entry in entries)


def _is_kinds(kinds, count):
    """Return True if these are some of so many kinds of an agent, ascending."""
    if not isinstance(kinds, list) or len(kinds) == 0:
        return False
    if not all(is_int(kind) and 0 <= kind < count for kind in kinds):
        return False
    return all(first < second for first, second in zip(kinds, kinds[1:]))


def _is_box(game, box):
    if not isinstance(box, list) or len(box) != len(game.agents):
        return False
    return all(_is_kinds(kinds, len(agent[1])) for kinds, agent in zip(box, game.agents))


def is_stuck(game, rule, box):
    """Return True if the plain rule is not constant in the box and no split of it is allowed."""
    if not _is_box(game, box):
        raise InvalidBox()
    return not _is_constant(game, rule, box) and _first_split(game, rule, box) is None


def _end_in(game, rule, box):
    """Return the end of a box in which the rule is constant."""
    lot, paid = rule[profile_number(game, tuple([kinds[0] for kinds in box]))]
    return "end", lot.index((1, 1)), list(paid)


def grow(game, rule):
    """Return ("tree", tree) with an obvious tree of the rule, or ("stuck", box) if there is none."""
    if not is_plain(rule):
        raise NotPlain()
    tree = []
    # Each box waits with the question whose no node it becomes; a yes node follows its question.
    waiting = [(whole_box(game), None)]
    while waiting:
        box, question = waiting.pop()
        at = len(tree)
        if question is not None:
            tree[question] = tree[question][:4] + (at,)
        if _is_constant(game, rule, box):
            tree.append(_end_in(game, rule, box))
            continue
        split = _first_split(game, rule, box)
        if split is None:
            return "stuck", box
        agent, part = split
        inside, outside = halves(box, agent, part)
        tree.append(("ask", agent, part, at + 1, at + 1))
        waiting.append((outside, at))
        waiting.append((inside, None))
    return "tree", tree
