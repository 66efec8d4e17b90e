"""Clock auctions: the price ascends, and bidders are asked whether they stay in."""

from unbent.errors import InvalidClock, TooLarge
from unbent.games import MOST_KINDS, Game
from unbent.ratios import compare

_BIDDERS = ("one", "two", "three")
_KINDS = "abcd"


def _check(values, bidders):
    if not 1 <= bidders <= len(_BIDDERS) or len(values) == 0:
        raise InvalidClock()
    if not all(compare(first, second) < 0 for first, second in zip(values, values[1:])):
        raise InvalidClock()
    # More profiles than there may be are refused by the game.
    if len(values) > MOST_KINDS:
        raise TooLarge("values")


def _game(values, bidders):
    names = list(_BIDDERS[:bidders])
    agents = []
    for agent, name in enumerate(names):
        kinds = []
        for letter, amount in zip(_KINDS, values):
            worths = [(0, 1)] * (bidders + 1)
            worths[agent + 1] = amount
            kinds.append((letter, (1, 1), (0, 1), worths))
        agents.append((name, kinds))
    return Game(agents, ["nobody"] + names, payments=True, needs=[("part",)])


def _end(values, prices, winner):
    paid = [(0, 1)] * len(prices)
    paid[winner] = values[prices[winner]]
    return "end", winner + 1, paid


def _nodes(values, prices, level, turn, start):
    """Return the nodes from here on, the first of which has the index start.

    prices has for each bidder the index of the value at which it said yes last, 0 at first, or None
    if it is out. The value at the index level is asked for, and turn is the bidder to be asked.
    """
    staying = [bidder for bidder, price in enumerate(prices) if price is not None]
    if len(staying) == 1 or level == len(values):
        return [_end(values, prices, staying[0])]
    later = (level, turn - 1) if turn > 0 else (level + 1, len(prices) - 1)
    if turn not in staying:
        return _nodes(values, prices, later[0], later[1], start)
    stays = [level if bidder == turn else price for bidder, price in enumerate(prices)]
    leaves = [None if bidder == turn else price for bidder, price in enumerate(prices)]
    yes = _nodes(values, stays, later[0], later[1], start + 1)
    middle = start + 1 + len(yes)
    no = _nodes(values, leaves, later[0], later[1], middle)
    return [("ask", turn, list(range(level, len(values))), start + 1, middle)] + yes + no


def clock(values, bidders):
    """Return the game and the tree of the clock auction of one thing."""
    _check(values, bidders)
    return _game(values, bidders), _nodes(values, [0] * bidders, 1, bidders - 1, 0)
