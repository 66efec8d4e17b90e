"""The linear program of a game: its points are the good rules, and its goal is their value."""

from unbent.games import profile_number, profile_weight, profiles, with_kind
from unbent.programs import Program
from unbent.ratios import multiply, negate, subtract, total
from unbent.rules import first_lie, unmet, value


def _width(game):
    """Return the number of variables of each profile."""
    return len(game.outcomes) + (len(game.agents) if game.payments else 0)


def _floors(game):
    return 1 if game.aim == "worst" else 0


def _start(game, profile):
    """Return the index of the first variable of the profile."""
    return profile_number(game, profile) * _width(game)


def _blank(game):
    return [(0, 1)] * (len(profiles(game)) * _width(game) + _floors(game))


def _worths(game, agent, kind):
    return game.agents[agent][1][kind][3]


def _minus(first, second):
    return [subtract(a, b) for a, b in zip(first, second)]


def _amounts(game, profile, worths, payer):
    """Return the factors of the sum of the chances times the worths, minus what the payer pays."""
    numbers = _blank(game)
    start = _start(game, profile)
    for outcome, worth in enumerate(worths):
        numbers[start + outcome] = worth
    if game.payments:
        numbers[start + len(game.outcomes) + payer] = (-1, 1)
    return numbers


def _has(game, agent, kind, profile):
    """Return the factors of what the agent of the kind has at the profile."""
    return _amounts(game, profile, _worths(game, agent, kind), agent)


def _chances(game, profile, outcomes):
    """Return the factors of the sum of the chances of the outcomes."""
    numbers = _blank(game)
    for outcome in outcomes:
        numbers[_start(game, profile) + outcome] = (1, 1)
    return numbers


def _payments(game, profile, agents):
    """Return the factors of the sum of the payments of the agents."""
    numbers = _blank(game)
    if game.payments:
        for agent in agents:
            numbers[_start(game, profile) + len(game.outcomes) + agent] = (1, 1)
    return numbers


def _sum_rows(game):
    every = list(range(len(game.outcomes)))
    return [(_chances(game, profile, every), "exactly", (1, 1)) for profile in profiles(game)]


def _truth_rows(game):
    rows = []
    for agent, (_, kinds) in enumerate(game.agents):
        for profile in profiles(game):
            kind = profile[agent]
            for told in range(len(kinds)):
                if told != kind:
                    lying = _has(game, agent, kind, with_kind(profile, agent, told))
                    rows.append((_minus(_has(game, agent, kind, profile), lying), "at least", (0, 1)))
    return rows


def _floor_rows(game):
    floor = _blank(game)
    floor[-1] = (1, 1)
    rows = []
    for profile in profiles(game):
        for agent, kind in enumerate(profile):
            rows.append((_minus(_has(game, agent, kind, profile), floor), "at least", (0, 1)))
    return rows


def _part_rows(game):
    rows = []
    for profile in profiles(game):
        for agent, kind in enumerate(profile):
            alone = game.agents[agent][1][kind][2]
            rows.append((_has(game, agent, kind, profile), "at least", alone))
    return rows


def _budget_rows(game, relation):
    every = list(range(len(game.agents)))
    return [(_payments(game, profile, every), relation, (0, 1)) for profile in profiles(game)]


def _bound_rows(game, bound):
    rows = []
    for profile in profiles(game):
        for agent in range(len(profile)):
            numbers = _payments(game, profile, [agent])
            rows.append((numbers, "at most", bound))
            rows.append((numbers, "at least", negate(bound)))
    return rows


def _envy_row(game, agent, other, swap, profile):
    """Return the row that the agent does not want the swapped outcomes for what the other pays."""
    worths = _worths(game, agent, profile[agent])
    swapped = _amounts(game, profile, [worths[outcome] for outcome in swap], other)
    return _minus(_has(game, agent, profile[agent], profile), swapped), "at least", (0, 1)


def _envy_rows(game, first, second, swap):
    rows = []
    for profile in profiles(game):
        rows.append(_envy_row(game, first, second, swap, profile))
        rows.append(_envy_row(game, second, first, swap, profile))
    return rows


def _order_rows(game, agent, chosen):
    rows = []
    for profile in profiles(game):
        later = profile[agent] + 1
        if later < len(game.agents[agent][1]):
            higher = _chances(game, with_kind(profile, agent, later), chosen)
            rows.append((_minus(higher, _chances(game, profile, chosen)), "at least", (0, 1)))
    return rows


def _need_rows(game, need):
    word = need[0]
    if word == "part":
        return _part_rows(game)
    if word == "budget":
        return _budget_rows(game, "at least")
    if word == "even":
        return _budget_rows(game, "exactly")
    if word == "bound":
        return _bound_rows(game, need[1])
    if word == "envy":
        return _envy_rows(game, need[1], need[2], need[3])
    return _order_rows(game, need[1], need[2])


def _rows(game):
    rows = _sum_rows(game) + _truth_rows(game)
    if game.aim == "worst":
        rows.extend(_floor_rows(game))
    for need in game.needs:
        rows.extend(_need_rows(game, need))
    return rows


def _total_worth(game, profile, outcome):
    return total([_worths(game, agent, kind)[outcome] for agent, kind in enumerate(profile)])


def _goal(game):
    goal = []
    for profile in profiles(game):
        weight = profile_weight(game, profile)
        for outcome in range(len(game.outcomes)):
            worth = _total_worth(game, profile, outcome) if game.aim == "total" else (0, 1)
            goal.append(multiply(weight, worth))
        if game.payments:
            goal.extend([weight if game.aim == "paid" else (0, 1)] * len(game.agents))
    return goal + [(1, 1)] * _floors(game)


def _free(game):
    free = []
    for _ in profiles(game):
        free.extend([False] * len(game.outcomes))
        if game.payments:
            free.extend([True] * len(game.agents))
    return free + [True] * _floors(game)


def program_of(game):
    """Return the program that asks for the best truthful rule of the game."""
    goal = _goal(game)
    return Program(len(goal), free=_free(game), goal=goal, rows=_rows(game))


def whole_variables(game):
    """Return the indexes of the variables that must be 0 or 1: all chances, if there are no lots."""
    if game.lots:
        return []
    starts = [_start(game, profile) for profile in profiles(game)]
    return [start + outcome for start in starts for outcome in range(len(game.outcomes))]


def point_of(game, rule):
    """Return the point of the rule: its chances and payments, and its value at the floor."""
    point = []
    for lot, paid in rule:
        point.extend(lot)
        if game.payments:
            point.extend(paid)
    if game.aim == "worst":
        point.append(value(game, rule))
    return point


def rule_at(game, values):
    """Return the rule with the chances and payments that stand at their variables."""
    many = len(game.outcomes)
    rule = []
    for profile in profiles(game):
        start = _start(game, profile)
        paid = [(0, 1)] * len(game.agents)
        if game.payments:
            paid = list(values[start + many:start + _width(game)])
        rule.append((list(values[start:start + many]), paid))
    return rule


def is_good(game, rule):
    """Return True if the rule is truthful and meets all needs."""
    return first_lie(game, rule) is None and unmet(game, rule) is None
