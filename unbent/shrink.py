"""Making a game without a good rule smaller while there is still none."""

from unbent.best import find
from unbent.errors import HasGoodRule, TooLarge
from unbent.games import Game, profiles
from unbent.model import whole_variables

_MOST_PROFILES = 6
_MOST_WHOLE = 12


def _without(values, index):
    return values[:index] + values[index + 1:]


def _changed(game, agents, outcomes, needs):
    return Game(agents, outcomes, aim=game.aim, payments=game.payments, lots=game.lots, needs=needs)


def without_need(game, index):
    """Return the game without the need, or None if it cannot be left out."""
    if not 0 <= index < len(game.needs):
        return None
    return _changed(game, game.agents, game.outcomes, _without(game.needs, index))


def without_kind(game, agent, kind):
    """Return the game without the kind of the agent, or None if it cannot be left out."""
    if not 0 <= agent < len(game.agents):
        return None
    name, kinds = game.agents[agent]
    if len(kinds) < 2 or not 0 <= kind < len(kinds):
        return None
    agents = list(game.agents)
    agents[agent] = (name, _without(kinds, kind))
    return _changed(game, agents, game.outcomes, game.needs)


def _lowered(indexes, outcome):
    """Return the indexes, each later than the outcome's decreased by one."""
    return [index - 1 if index > outcome else index for index in indexes]


def _needs_without(needs, outcome):
    """Return the needs without the outcome, or None if one of them swaps it with another one."""
    found = []
    for need in needs:
        if need[0] == "envy":
            _, first, second, swap = need
            if swap[outcome] != outcome:
                return None
            found.append(("envy", first, second, _lowered(_without(swap, outcome), outcome)))
        elif need[0] == "order":
            _, agent, chosen = need
            rest = [index for index in chosen if index != outcome]
            if rest:
                found.append(("order", agent, _lowered(rest, outcome)))
        else:
            found.append(need)
    return found


def without_outcome(game, outcome):
    """Return the game without the outcome, or None if it cannot be left out."""
    if len(game.outcomes) < 2 or not 0 <= outcome < len(game.outcomes):
        return None
    needs = _needs_without(game.needs, outcome)
    if needs is None:
        return None
    agents = []
    for name, kinds in game.agents:
        left = [(word, weight, alone, _without(worths, outcome)) for word, weight, alone, worths in kinds]
        agents.append((name, left))
    return _changed(game, agents, _without(game.outcomes, outcome), needs)


def _smaller_games(game):
    """Return the games with one thing left out, in the order in which they are tried."""
    found = [without_need(game, index) for index in range(len(game.needs))]
    for agent, (_, kinds) in enumerate(game.agents):
        found.extend([without_kind(game, agent, kind) for kind in range(len(kinds))])
    found.extend([without_outcome(game, outcome) for outcome in range(len(game.outcomes))])
    return [smaller for smaller in found if smaller is not None]


def _next_step(game):
    """Return (smaller game, answer) for the first thing that is left out, or None if nothing is."""
    for smaller in _smaller_games(game):
        try:
            answer = find(smaller)
        except TooLarge:
            answer = None
        if answer is not None and answer[0] == "none":
            return smaller, answer
    return None


def shrink(game):
    """Return (game, answer): a smallest game without a good rule, and an accepted answer for it."""
    if len(profiles(game)) > _MOST_PROFILES:
        raise TooLarge("profiles")
    if len(whole_variables(game)) > _MOST_WHOLE:
        raise TooLarge("whole")
    answer = find(game)
    if answer[0] != "none":
        raise HasGoodRule()
    reached = (game, answer)
    step = _next_step(game)
    while step is not None:
        reached = step
        step = _next_step(reached[0])
    return reached
