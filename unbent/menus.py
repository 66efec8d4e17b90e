"""Menus: one agent alone, the lots that its kinds get, and the payments under which none lies."""

from unbent.errors import InvalidMenu, NotHonest, TooLarge
from unbent.ratios import add, compare, dot, negate, subtract, total

_MOST_KINDS = 8
_MOST_OUTCOMES = 6


def _check_menu(worths, lots):
    if len(worths) == 0 or len(lots) != len(worths):
        raise InvalidMenu("kinds")
    outcomes = len(worths[0])
    if outcomes == 0 or any(len(line) != outcomes for line in worths + lots):
        raise InvalidMenu("outcomes")
    if len(worths) > _MOST_KINDS:
        raise TooLarge("kinds")
    if outcomes > _MOST_OUTCOMES:
        raise TooLarge("outcomes")


def _gain(worths, lots, kind, other):
    return subtract(dot(worths[kind], lots[other]), dot(worths[kind], lots[kind]))


def gain_from(worths, lots, kind, other):
    """Return the gain of the kind from the other kind's lot."""
    _check_menu(worths, lots)
    return _gain(worths, lots, kind, other)


def is_honest(worths, lots, payments):
    """Return True if no kind has more with another kind's lot and payment."""
    _check_menu(worths, lots)
    if len(payments) != len(worths) or payments[0] != (0, 1):
        return False
    for kind in range(len(worths)):
        for other in range(len(worths)):
            dearer = subtract(payments[other], payments[kind])
            if compare(_gain(worths, lots, kind, other), dearer) > 0:
                return False
    return True


def cycle_gain(worths, lots, cycle):
    """Return the gain of the cycle, a list of different kinds."""
    _check_menu(worths, lots)
    following = cycle[1:] + cycle[:1]
    return total([_gain(worths, lots, kind, other) for kind, other in zip(cycle, following)])


def _raised(gains, sums, steps):
    """Raise the sums by one more step of the chains; return a kind whose sum is greater now, or None."""
    found = None
    for kind, line in enumerate(gains):
        for other, amount in enumerate(line):
            through = add(amount, sums[other])
            if compare(through, sums[kind]) > 0:
                sums[kind] = through
                steps[kind] = other
                found = kind
    return found


def _cycle_behind(steps, kind):
    """Return the cycle into which the steps lead from the kind."""
    for _ in steps:
        kind = steps[kind]
    cycle = [kind]
    while steps[cycle[-1]] != kind:
        cycle.append(steps[cycle[-1]])
    return cycle


def _chains(worths, lots, last):
    """Return (sums, cycle): the greatest sum of gains along a chain from each kind to the last one.

    If there is a cycle of a gain above 0, it is returned, and the sums are None.
    """
    every = list(range(len(worths)))
    gains = [[_gain(worths, lots, kind, other) for other in every] for kind in every]
    sums = [line[last] for line in gains]
    steps = [last for _ in every]
    raised = None
    for _ in every:
        raised = _raised(gains, sums, steps)
    # A chain of different kinds has fewer steps than there are kinds: a longer one gains by a cycle.
    if raised is not None:
        return None, _cycle_behind(steps, raised)
    return sums, None


def highest_payments(worths, lots):
    """Return ("payments", values) with the highest honest payments, or ("cycle", kinds)."""
    _check_menu(worths, lots)
    sums, cycle = _chains(worths, lots, 0)
    if cycle is not None:
        return "cycle", cycle
    return "payments", [negate(amount) for amount in sums]


def spread(worths, lots, first, second):
    """Return the least and the greatest value of second's payment minus first's payment."""
    _check_menu(worths, lots)
    forth, cycle = _chains(worths, lots, second)
    if cycle is not None:
        raise NotHonest()
    back, _ = _chains(worths, lots, first)
    return forth[first], negate(back[second])
