"""Trades among agents who own one thing each: top trading cycles, and groups that object."""

from unbent.errors import InvalidWishes
from unbent.matching import MOST_MEMBERS, are_different, check_size, check_wishes, prefers


def _check_trade(wishes):
    check_size([len(wishes)], MOST_MEMBERS)
    check_wishes(wishes, len(wishes))
    if any(len(line) != len(wishes) for line in wishes):
        raise InvalidWishes("list")


def _pointed(wishes, remaining):
    """Return the first thing of the wish list that remains."""
    return [thing for thing in wishes if thing in remaining][0]


def _cycle(wishes, remaining):
    """Return the agents of one cycle among those that remain."""
    way = [remaining[0]]
    following = _pointed(wishes[way[0]], remaining)
    while following not in way:
        way.append(following)
        following = _pointed(wishes[following], remaining)
    return way[way.index(following):]


def trade(wishes):
    """Return what each agent receives by top trading cycles, where agent i owns thing i."""
    _check_trade(wishes)
    received = [None] * len(wishes)
    remaining = list(range(len(wishes)))
    while remaining:
        # The cycles of a round do not touch each other, so they may as well leave one by one.
        cycle = _cycle(wishes, remaining)
        for agent in cycle:
            received[agent] = _pointed(wishes[agent], remaining)
        remaining = [agent for agent in remaining if agent not in cycle]
    return received


def _step(wishes, own, group, reached):
    """Give the next agent a thing in each way that is reached; own is what it has in the assignment."""
    found = {}
    for taken, is_better in reached.items():
        for thing in group:
            if (taken >> thing) & 1 == 0 and not prefers(wishes, own, thing):
                way = taken | (1 << thing)
                found[way] = found.get(way, False) or is_better or thing != own
    return found


def _objects(wishes, assignment, group):
    """Return True if the group can divide its things so that none has less and one has more."""
    # The keys are the sets of things that are taken, the values whether one agent can have more.
    reached = {0: False}
    for agent in group:
        reached = _step(wishes[agent], assignment[agent], group, reached)
    return any(reached.values())


def objecting(wishes, assignment):
    """Return the first group that objects to the assignment, an ascending list, or None."""
    _check_trade(wishes)
    if len(assignment) != len(wishes) or not are_different(assignment, len(wishes)):
        raise InvalidWishes("list")
    for number in range(1 << len(wishes)):
        group = [agent for agent in range(len(wishes)) if (number >> agent) & 1 == 1]
        if _objects(wishes, assignment, group):
            return group
    return None
