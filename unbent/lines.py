"""Lines: lists of integers that stand for fractions over one denominator.

Long eliminations are done on whole lines, because one denominator for a line costs much less
than one for each item.
"""

from math import gcd, lcm


def whole_line(values):
    """Return (den, numbers): the fractions are the numbers divided by den, the least one possible."""
    den = 1
    for item in values:
        den = lcm(den, item[1])
    return den, [item[0] * (den // item[1]) for item in values]


def common_divisor(first, numbers):
    """Return the greatest common divisor of the first number and all others."""
    common = first
    for number in numbers:
        if common == 1:
            return 1
        common = gcd(common, number)
    return common


def lowest(den, numbers):
    """Return the line in lowest terms."""
    common = common_divisor(den, numbers)
    if common == 1:
        return den, numbers
    return den // common, [number // common for number in numbers]
