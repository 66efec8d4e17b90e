"""Games: agents of several kinds, outcomes, an aim and needs; their profiles, entries and rules."""

from unbent.errors import InvalidGame, TooLarge, UnknownProfile
from unbent.ratios import is_int, is_ratio, multiply, sign, total

AIMS = ("total", "worst", "paid")

MOST_AGENTS = 4
MOST_KINDS = 4
MOST_OUTCOMES = 6
MOST_NEEDS = 12
MOST_PROFILES = 16

_MOST_LETTERS = 12


class Game:
    """A situation in which some agents, each of a kind that only it knows, decide together."""

    def __init__(self, agents, outcomes, *, aim="total", payments=False, lots=False, needs=()):
        _check_size(agents, outcomes, needs)
        _check_agents(agents)
        _check_kinds(agents)
        _check_outcomes(outcomes)
        _check_worths(agents, outcomes)
        if aim not in AIMS:
            raise InvalidGame("aim")
        _check_needs(agents, outcomes, needs)
        self.agents = [(name, [_copied_kind(kind) for kind in kinds]) for name, kinds in agents]
        self.outcomes = list(outcomes)
        self.aim = aim
        self.payments = payments
        self.lots = lots
        self.needs = [_copied_need(need) for need in needs]


def _copied_kind(kind):
    name, weight, alone, worths = kind
    return name, weight, alone, list(worths)


def _copied_need(need):
    return tuple([list(part) if isinstance(part, list) else part for part in need])


def is_name(text):
    """Return True if the text is a name: 1 to 12 small letters."""
    if not 1 <= len(text) <= _MOST_LETTERS:
        return False
    return all(letter in "abcdefghijklmnopqrstuvwxyz" for letter in text)


def _are_names(texts):
    """Return True if all are names, each different from the others."""
    return all(is_name(text) for text in texts) and len(set(texts)) == len(texts)


def profile_count(counts):
    """Return the product of the numbers of kinds."""
    product = 1
    for count in counts:
        product = product * count
    return product


def _check_size(agents, outcomes, needs):
    counts = [len(kinds) for _, kinds in agents]
    if len(agents) > MOST_AGENTS:
        raise TooLarge("agents")
    if max(counts, default=0) > MOST_KINDS:
        raise TooLarge("kinds")
    if len(outcomes) > MOST_OUTCOMES:
        raise TooLarge("outcomes")
    if len(needs) > MOST_NEEDS:
        raise TooLarge("needs")
    if profile_count(counts) > MOST_PROFILES:
        raise TooLarge("profiles")


def _check_agents(agents):
    if len(agents) == 0 or not _are_names([name for name, _ in agents]):
        raise InvalidGame("agents")


def _check_kinds(agents):
    for _, kinds in agents:
        if len(kinds) == 0 or not _are_names([kind[0] for kind in kinds]):
            raise InvalidGame("kinds")
        if any(sign(kind[1]) < 0 for kind in kinds):
            raise InvalidGame("kinds")


def _check_outcomes(outcomes):
    if len(outcomes) == 0 or not _are_names(outcomes):
        raise InvalidGame("outcomes")


def _check_worths(agents, outcomes):
    for _, kinds in agents:
        if any(len(kind[3]) != len(outcomes) for kind in kinds):
            raise InvalidGame("worths")


def _check_needs(agents, outcomes, needs):
    for at, need in enumerate(needs):
        if not is_need(len(agents), len(outcomes), need) or is_excluded(needs[:at], need):
            raise InvalidGame("needs")


def _is_index(part, count):
    """Return True if the value, a part of a need or of a profile, is an index of one of so many things."""
    return is_int(part) and 0 <= part < count


def _is_swap(swap, outcomes):
    if not isinstance(swap, list) or len(swap) != outcomes:
        return False
    if not all(_is_index(at, outcomes) for at in swap):
        return False
    return all(swap[swap[at]] == at for at in range(outcomes))


def _is_chosen(chosen, outcomes):
    if not isinstance(chosen, list) or len(chosen) == 0:
        return False
    if not all(_is_index(at, outcomes) for at in chosen):
        return False
    return all(first < second for first, second in zip(chosen, chosen[1:]))


def is_need(agents, outcomes, need):
    """Return True if the tuple is a need of a game with so many agents and outcomes."""
    word = need[0] if need else None
    if word in ("part", "budget", "even"):
        return len(need) == 1
    if word == "bound":
        return len(need) == 2 and is_ratio(need[1]) and sign(need[1]) >= 0
    if word == "envy" and len(need) == 4:
        if not _is_index(need[1], agents) or not _is_index(need[2], agents):
            return False
        return need[1] < need[2] and _is_swap(need[3], outcomes)
    if word == "order" and len(need) == 3:
        return _is_index(need[1], agents) and _is_chosen(need[2], outcomes)
    return False


def is_excluded(earlier, need):
    """Return True if one of the earlier needs must not stand beside the need."""
    for other in earlier:
        if need[0] == other[0] and need[0] in ("part", "budget", "even", "bound"):
            return True
        if need[0] == "envy" and need[:3] == other[:3]:
            return True
    return False


def _counts(game):
    return [len(kinds) for _, kinds in game.agents]


def tuples_of(lists):
    """Return the tuples with one item of each list; the last item changes fastest."""
    found = [()]
    for items in lists:
        found = [start + (item,) for start in found for item in items]
    return found


def profiles(game):
    """Return the list of the profiles; the kind of the last agent changes fastest."""
    return tuples_of([list(range(count)) for count in _counts(game)])


def profile_number(game, profile):
    """Return the index of the profile in the list of the profiles."""
    counts = _counts(game)
    if len(profile) != len(counts):
        raise UnknownProfile(profile)
    number = 0
    for kind, count in zip(profile, counts):
        if not _is_index(kind, count):
            raise UnknownProfile(profile)
        number = number * count + kind
    return number


def with_kind(profile, agent, kind):
    """Return the profile with the kind in place of the agent's."""
    return profile[:agent] + (kind,) + profile[agent + 1:]


def kind_names(game, profile):
    """Return the list of the names of the kinds of the profile."""
    return [kinds[kind][0] for (_, kinds), kind in zip(game.agents, profile)]


def profile_weight(game, profile):
    """Return the product of the weights of the kinds of the profile."""
    profile_number(game, profile)
    weight = (1, 1)
    for (_, kinds), kind in zip(game.agents, profile):
        weight = multiply(weight, kinds[kind][1])
    return weight


def _is_lot(game, lot):
    if len(lot) != len(game.outcomes) or any(sign(chance) < 0 for chance in lot):
        return False
    return total(lot) == (1, 1) and (game.lots or (1, 1) in lot)


def _is_paid(game, paid):
    if len(paid) != len(game.agents):
        return False
    return game.payments or all(sign(amount) == 0 for amount in paid)


def is_entry(game, entry):
    """Return True if the tuple is an entry for the game."""
    return len(entry) == 2 and _is_lot(game, entry[0]) and _is_paid(game, entry[1])


def is_rule(game, rule):
    """Return True if the list is a rule for the game."""
    if len(rule) != profile_count(_counts(game)):
        return False
    return all(is_entry(game, entry) for entry in rule)


def same_game(game, other):
    """Return True if the two games have equal parts in the same order."""
    if game.agents != other.agents or game.outcomes != other.outcomes:
        return False
    if game.aim != other.aim or game.needs != other.needs:
        return False
    return game.payments == other.payments and game.lots == other.lots
