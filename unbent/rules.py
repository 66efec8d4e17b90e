"""What a rule gives: to each agent, to a lie, to the needs and to the aim of a game."""

from unbent.errors import InvalidLot
from unbent.games import is_entry, is_rule, profile_number, profile_weight, profiles, with_kind
from unbent.ratios import (
    add, compare, dot, greatest_index, least_index, multiply, negate, sign, subtract, total,
)


def _entry_at(game, rule, profile):
    return rule[profile_number(game, profile)]


def _worths(game, agent, kind):
    return game.agents[agent][1][kind][3]


def has(game, rule, agent, kind, profile):
    """Return what the agent of the kind has at the profile of reports."""
    lot, paid = _entry_at(game, rule, profile)
    return subtract(dot(lot, _worths(game, agent, kind)), paid[agent])


def _has_own(game, rule, agent, profile):
    """Return what the agent, of its kind in the profile, has there."""
    return has(game, rule, agent, profile[agent], profile)


def gain(game, rule, agent, told, profile):
    """Return how much more the agent has by telling another kind than its own in the profile."""
    kind = profile[agent]
    lying = has(game, rule, agent, kind, with_kind(profile, agent, told))
    return subtract(lying, has(game, rule, agent, kind, profile))


def _lies(game, rule, agent):
    """Return all lies of the agent, in order."""
    found = []
    for profile in profiles(game):
        kind = profile[agent]
        for told in range(len(game.agents[agent][1])):
            if told != kind:
                found.append((agent, kind, told, profile, gain(game, rule, agent, told, profile)))
    return found


def first_lie(game, rule):
    """Return the first lie with a gain above 0, or None if the rule is truthful."""
    for agent in range(len(game.agents)):
        for lie in _lies(game, rule, agent):
            if sign(lie[4]) > 0:
                return lie
    return None


def _best_lie(game, rule, agent):
    lies = _lies(game, rule, agent)
    at = greatest_index([lie[4] for lie in lies])
    if at is None or sign(lies[at][4]) <= 0:
        return None
    return lies[at]


def best_lies(game, rule):
    """Return for each agent its lie with the greatest gain, or None if it gains by none."""
    return [_best_lie(game, rule, agent) for agent in range(len(game.agents))]


def _meets_part(game, rule):
    for profile in profiles(game):
        for agent, kind in enumerate(profile):
            alone = game.agents[agent][1][kind][2]
            if compare(_has_own(game, rule, agent, profile), alone) < 0:
                return False
    return True


def _meets_bound(rule, bound):
    for _, paid in rule:
        for amount in paid:
            if compare(amount, bound) > 0 or compare(amount, negate(bound)) < 0:
                return False
    return True


def _envies(game, rule, agent, other, swap, profile):
    """Return True if the agent would rather have the swapped outcomes for what the other pays."""
    lot, paid = _entry_at(game, rule, profile)
    worths = _worths(game, agent, profile[agent])
    swapped = subtract(dot(lot, [worths[outcome] for outcome in swap]), paid[other])
    return compare(_has_own(game, rule, agent, profile), swapped) < 0


def _meets_envy(game, rule, need):
    _, first, second, swap = need
    for profile in profiles(game):
        if _envies(game, rule, first, second, swap, profile):
            return False
        if _envies(game, rule, second, first, swap, profile):
            return False
    return True


def _meets_order(game, rule, need):
    _, agent, chosen = need
    for profile in profiles(game):
        later = profile[agent] + 1
        if later < len(game.agents[agent][1]):
            lot, _ = _entry_at(game, rule, profile)
            higher, _ = _entry_at(game, rule, with_kind(profile, agent, later))
            least = total([lot[outcome] for outcome in chosen])
            if compare(total([higher[outcome] for outcome in chosen]), least) < 0:
                return False
    return True


def meets(game, rule, need):
    """Return True if the rule meets the need."""
    word = need[0]
    if word == "part":
        return _meets_part(game, rule)
    if word == "budget":
        return all(sign(total(paid)) >= 0 for _, paid in rule)
    if word == "even":
        return all(sign(total(paid)) == 0 for _, paid in rule)
    if word == "bound":
        return _meets_bound(rule, need[1])
    if word == "envy":
        return _meets_envy(game, rule, need)
    return _meets_order(game, rule, need)


def unmet(game, rule):
    """Return the index of the first need of the game that the rule does not meet, or None."""
    for at, need in enumerate(game.needs):
        if not meets(game, rule, need):
            return at
    return None


def _total_worth(game, rule, profile):
    lot, _ = _entry_at(game, rule, profile)
    return total([dot(lot, _worths(game, agent, kind)) for agent, kind in enumerate(profile)])


def _total_paid(game, rule, profile):
    _, paid = _entry_at(game, rule, profile)
    return total(paid)


def _worst(game, rule):
    amounts = []
    for profile in profiles(game):
        for agent in range(len(game.agents)):
            amounts.append(_has_own(game, rule, agent, profile))
    return amounts[least_index(amounts)]


def value(game, rule):
    """Return the value of the rule for the aim of the game."""
    if game.aim == "worst":
        return _worst(game, rule)
    every = profiles(game)
    weights = [profile_weight(game, profile) for profile in every]
    if game.aim == "total":
        return dot(weights, [_total_worth(game, rule, profile) for profile in every])
    return dot(weights, [_total_paid(game, rule, profile) for profile in every])


def _mixed(first, second, w):
    rest = subtract((1, 1), w)
    return [add(multiply(w, a), multiply(rest, b)) for a, b in zip(first, second)]


def mixture(game, first, second, w):
    """Return the rule with w times the first rule and 1 - w times the second one."""
    if sign(w) < 0 or compare(w, (1, 1)) > 0:
        raise InvalidLot()
    rule = [(_mixed(a[0], b[0], w), _mixed(a[1], b[1], w)) for a, b in zip(first, second)]
    if not is_rule(game, rule):
        raise InvalidLot()
    return rule


def constant(game, entry):
    """Return the rule with this entry at each profile."""
    if not is_entry(game, entry):
        raise InvalidLot()
    return [(list(entry[0]), list(entry[1])) for _ in profiles(game)]
