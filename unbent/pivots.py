"""The pivot rule: the outcome that is worth most to all, and each agent pays what it costs the others."""

from unbent.errors import InvalidGame
from unbent.games import profiles
from unbent.ratios import greatest_index, subtract, total


def _sums(game, profile, agents):
    """Return for each outcome the sum of its worths to the agents, of their kinds in the profile."""
    lines = [game.agents[agent][1][profile[agent]][3] for agent in agents]
    return [total([worths[outcome] for worths in lines]) for outcome in range(len(game.outcomes))]


def _price(game, profile, agent, chosen):
    """Return how much more another outcome than the chosen one would be worth to the others."""
    sums = _sums(game, profile, [other for other in range(len(game.agents)) if other != agent])
    return subtract(sums[greatest_index(sums)], sums[chosen])


def _entry(game, profile):
    agents = list(range(len(game.agents)))
    chosen = greatest_index(_sums(game, profile, agents))
    lot = [(0, 1)] * len(game.outcomes)
    lot[chosen] = (1, 1)
    return lot, [_price(game, profile, agent, chosen) for agent in agents]


def pivot_rule(game):
    """Return the pivot rule of a game with payments."""
    if not game.payments:
        raise InvalidGame("payments")
    return [_entry(game, profile) for profile in profiles(game)]
