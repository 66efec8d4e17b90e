"""Medians of peaks, and costs that are shared among those who are served."""

from math import factorial

from unbent.errors import InvalidCosts, InvalidWishes
from unbent.matching import check_size
from unbent.ratios import add, compare, make, multiply, subtract

_MOST_PEAKS = 1000
_MOST_AGENTS = 6


def median(peaks, phantoms):
    """Return the middle one of the peaks and phantoms."""
    check_size([len(peaks)], _MOST_PEAKS)
    if len(peaks) == 0 or len(phantoms) != len(peaks) - 1:
        raise InvalidWishes("list")
    return sorted(list(peaks) + list(phantoms))[len(peaks) - 1]


def _members(group):
    return [agent for agent in range(_MOST_AGENTS) if (group >> agent) & 1 == 1]


def _group(agents):
    """Return the index of the group of the agents."""
    return sum([1 << agent for agent in agents])


def _share(costs, group, agent):
    """Return the average of what the agent adds to the cost of those before it."""
    many = len(_members(group))
    found = (0, 1)
    for before in range(len(costs)):
        if (before | group) == group and (before >> agent) & 1 == 0:
            added = subtract(costs[before | (1 << agent)], costs[before])
            size = len(_members(before))
            # In so many orders of the group exactly these agents come before the agent.
            orders = factorial(size) * factorial(many - size - 1)
            found = add(found, multiply(added, make(orders, factorial(many))))
    return found


def share(costs, group, agent):
    """Return the share of the agent in the group, which is given by its index."""
    # There is a cost for each group, so more agents than the limit have more costs than this.
    check_size([len(costs)], 1 << _MOST_AGENTS)
    return _share(costs, group, agent)


def _ascend(costs, agents):
    """Return True if a group costs at least as much as each group within it."""
    for group, cost in enumerate(costs):
        if any(compare(costs[group | (1 << agent)], cost) < 0 for agent in range(agents)):
            return False
    return True


def _cost_less_together(costs):
    """Return True if a union and an intersection together never cost more than the two groups."""
    for group, cost in enumerate(costs):
        for other in range(group):
            together = add(costs[group | other], costs[group & other])
            if compare(together, add(cost, costs[other])) > 0:
                return False
    return True


def _are_costs(costs, agents):
    if len(costs) != 1 << agents or costs[0] != (0, 1):
        return False
    return _ascend(costs, agents) and _cost_less_together(costs)


def _staying(costs, bids, served):
    """Return the served agents whose bid is not below their share."""
    group = _group(served)
    return [agent for agent in served if compare(bids[agent], _share(costs, group, agent)) >= 0]


def charge(costs, bids):
    """Return (served, paid): the agents that are served, and the payments of all."""
    check_size([len(bids)], _MOST_AGENTS)
    if not _are_costs(costs, len(bids)):
        raise InvalidCosts()
    served = list(range(len(bids)))
    staying = _staying(costs, bids, served)
    while len(staying) < len(served):
        served = staying
        staying = _staying(costs, bids, served)
    paid = [(0, 1)] * len(bids)
    for agent in served:
        paid[agent] = _share(costs, _group(served), agent)
    return served, paid
