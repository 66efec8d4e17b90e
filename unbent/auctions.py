"""Auctions of one thing that bring the seller the most: bidders, ironed values, and the rule."""

from unbent.errors import InvalidBidders
from unbent.games import (
    MOST_AGENTS, MOST_KINDS, MOST_PROFILES, Game, is_name, profile_count, profiles, with_kind,
)
from unbent.ratios import add, compare, divide, dot, multiply, sign, subtract, total

_NOBODY = "nobody"
_LETTERS = "abcd"


def _check_values(values, weights):
    if not 1 <= len(values) <= MOST_KINDS or len(weights) != len(values):
        raise InvalidBidders("kinds")
    if any(compare(value, higher) >= 0 for value, higher in zip(values, values[1:])):
        raise InvalidBidders("values")
    if any(sign(weight) <= 0 for weight in weights):
        raise InvalidBidders("weights")


def _check_bidders(bidders):
    names = [bidder[0] for bidder in bidders]
    if not 1 <= len(bidders) <= MOST_AGENTS:
        raise InvalidBidders("bidders")
    if not all(is_name(name) for name in names) or len(set(names)) != len(names) or _NOBODY in names:
        raise InvalidBidders("names")
    for _, values, weights in bidders:
        _check_values(values, weights)
    if profile_count([len(bidder[1]) for bidder in bidders]) > MOST_PROFILES:
        raise InvalidBidders("profiles")


def _virtual(values, weights, kind):
    if kind == len(values) - 1:
        return values[kind]
    later = divide(total(weights[kind + 1:]), weights[kind])
    return subtract(values[kind], multiply(subtract(values[kind + 1], values[kind]), later))


def virtual_values(values, weights):
    """Return the virtual value of each kind of one bidder."""
    _check_values(values, weights)
    return [_virtual(values, weights, kind) for kind in range(len(values))]


def _joined(first, second):
    """Return one block for two, as a tuple (value, weight, number of kinds)."""
    weight = add(first[1], second[1])
    value = divide(dot([first[0], second[0]], [first[1], second[1]]), weight)
    return value, weight, first[2] + second[2]


def _first_fall(blocks):
    """Return the index of the first block whose value is above that of the next one, or None."""
    for at in range(len(blocks) - 1):
        if compare(blocks[at][0], blocks[at + 1][0]) > 0:
            return at
    return None


def ironed_values(values, weights):
    """Return the ironed value of each kind of one bidder."""
    blocks = [(value, weight, 1) for value, weight in zip(virtual_values(values, weights), weights)]
    at = _first_fall(blocks)
    while at is not None:
        blocks[at:at + 2] = [_joined(blocks[at], blocks[at + 1])]
        at = _first_fall(blocks)
    found = []
    for value, _, many in blocks:
        found.extend([value] * many)
    return found


def _agent(name, values, weights, outcomes):
    kinds = []
    for letter, value, weight in zip(_LETTERS, values, weights):
        worths = [value if outcome == name else (0, 1) for outcome in outcomes]
        kinds.append(("k" + letter, weight, (0, 1), worths))
    return name, kinds


def bidders_game(bidders):
    """Return the game of the bidders, tuples (name, values, weights)."""
    _check_bidders(bidders)
    outcomes = [_NOBODY] + [bidder[0] for bidder in bidders]
    agents = [_agent(name, values, weights, outcomes) for name, values, weights in bidders]
    return Game(agents, outcomes, aim="paid", payments=True, lots=True, needs=[("part",)])


def _winner(ironed, profile):
    """Return the first bidder with the greatest ironed value above 0, or None."""
    best = None
    most = (0, 1)
    for bidder, kind in enumerate(profile):
        if compare(ironed[bidder][kind], most) > 0:
            best, most = bidder, ironed[bidder][kind]
    return best


def _price(bidders, ironed, profile, winner):
    """Return the least value with which the winner would still win."""
    winning = []
    for kind, value in enumerate(bidders[winner][1]):
        if _winner(ironed, with_kind(profile, winner, kind)) == winner:
            winning.append(value)
    return winning[0]


def _entry(bidders, ironed, profile):
    lot = [(0, 1)] * (len(bidders) + 1)
    paid = [(0, 1)] * len(bidders)
    winner = _winner(ironed, profile)
    if winner is None:
        lot[0] = (1, 1)
    else:
        lot[winner + 1] = (1, 1)
        paid[winner] = _price(bidders, ironed, profile, winner)
    return lot, paid


def auction(bidders):
    """Return the auction, a rule for the game of the bidders."""
    game = bidders_game(bidders)
    ironed = [ironed_values(values, weights) for _, values, weights in bidders]
    return [_entry(bidders, ironed, profile) for profile in profiles(game)]
