"""Rules of one number: the share that an agent gets by the number that it tells."""

from unbent.errors import InvalidThresholds
from unbent.ratios import add, compare, divide, multiply, sign, subtract

_MOST_CUTS = 7


class Thresholds:
    """A share for each piece between a low and a high number."""

    def __init__(self, low, high, *, cuts, shares):
        ends = [low] + list(cuts) + [high]
        if any(compare(start, end) >= 0 for start, end in zip(ends, ends[1:])):
            raise InvalidThresholds("cuts")
        if len(cuts) > _MOST_CUTS:
            raise InvalidThresholds("many")
        if len(shares) != len(cuts) + 1:
            raise InvalidThresholds("shares")
        self.low = low
        self.high = high
        self.cuts = list(cuts)
        self.shares = list(shares)

    def piece(self, number):
        """Return the piece to which the number belongs."""
        if compare(number, self.low) < 0 or compare(number, self.high) > 0:
            raise InvalidThresholds("number")
        return len([cut for cut in self.cuts if compare(cut, number) <= 0])

    def tolls(self):
        """Return the payments for the pieces under which no lie gains, if any payments do this."""
        found = [(0, 1)]
        for cut, before, behind in zip(self.cuts, self.shares, self.shares[1:]):
            found.append(add(found[-1], multiply(cut, subtract(behind, before))))
        return found

    def is_ascending(self):
        """Return True if no share is less than the one before it."""
        return all(compare(before, behind) <= 0 for before, behind in zip(self.shares, self.shares[1:]))

    def lie(self, payments):
        """Return the lie (true, told, gain) of the rule with these payments, or None."""
        if len(payments) != len(self.shares):
            raise InvalidThresholds("payments")
        ends = [self.low] + self.cuts + [self.high]
        for i, share in enumerate(self.shares):
            for j, start in enumerate(ends[:-1]):
                more = subtract(self.shares[j], share)
                dearer = subtract(payments[j], payments[i])
                true = _gainer(more, dearer, ends[i], ends[i + 1])
                if true is not None:
                    return true, start, _gain(more, dearer, true)
        return None


def _gain(more, dearer, number):
    """Return what the number gains by so much more share that is so much dearer."""
    return subtract(multiply(number, more), dearer)


def _gainer(more, dearer, start, end):
    """Return the number of the piece from start to end that is said to gain, or None."""
    if sign(_gain(more, dearer, start)) > 0:
        return start
    # The gain is 0 or less at the start, so only a growing gain is above 0 just before the end.
    if sign(_gain(more, dearer, end)) <= 0:
        return None
    nothing = divide(dearer, more)
    return divide(add(nothing, end), (2, 1))
