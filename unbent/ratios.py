"""Fractions: tuples (p, q) of integers in lowest terms, with q at least 1."""

from math import gcd

from unbent.errors import InvalidNumber, TooLarge, ZeroDenominator

_READ_DIGITS = 12


def is_int(value):
    """Return True if the value is an integer, for any value; True and False are none."""
    return isinstance(value, int) and not isinstance(value, bool)


def is_ratio(value):
    """Return True if the value is a fraction, for any value."""
    if not isinstance(value, tuple) or len(value) != 2:
        return False
    p, q = value
    return is_int(p) and is_int(q) and q >= 1 and gcd(p, q) == 1


def make(p, q=1):
    """Return the fraction p / q."""
    if q == 0:
        raise ZeroDenominator()
    common = gcd(p, q)
    if q < 0:
        common = -common
    return p // common, q // common


def add(a, b):
    """Return the sum."""
    return make(a[0] * b[1] + b[0] * a[1], a[1] * b[1])


def subtract(a, b):
    """Return a minus b."""
    return make(a[0] * b[1] - b[0] * a[1], a[1] * b[1])


def multiply(a, b):
    """Return the product."""
    return make(a[0] * b[0], a[1] * b[1])


def negate(a):
    """Return 0 minus a."""
    return -a[0], a[1]


def divide(a, b):
    """Return a divided by b."""
    return make(a[0] * b[1], a[1] * b[0])


def sign(a):
    """Return -1, 0 or 1 as a is below, equal to or above 0."""
    if a[0] > 0:
        return 1
    return -1 if a[0] < 0 else 0


def compare(a, b):
    """Return -1, 0 or 1 as a is less than, equal to or greater than b."""
    return sign((a[0] * b[1] - b[0] * a[1], a[1] * b[1]))


def floor_of(a):
    """Return the greatest integer that is not greater than a."""
    return a[0] // a[1]


def total(values):
    """Return the sum of a list of fractions."""
    found = (0, 1)
    for item in values:
        found = add(found, item)
    return found


def dot(first, second):
    """Return the sum of the products of the items at equal indexes."""
    found = (0, 1)
    for a, b in zip(first, second):
        # Most products in the rows of a program are 0.
        if a[0] != 0 and b[0] != 0:
            found = add(found, multiply(a, b))
    return found


def least_index(values):
    """Return the first index of the least fraction, or None for the empty list."""
    found = None
    for at, item in enumerate(values):
        if found is None or compare(item, values[found]) < 0:
            found = at
    return found


def greatest_index(values):
    """Return the first index of the greatest fraction, or None for the empty list."""
    found = None
    for at, item in enumerate(values):
        if found is None or compare(item, values[found]) > 0:
            found = at
    return found


def _read_digits(digits):
    """Return the number with these digits, or None if they are no 1 to 12 digits."""
    if not 1 <= len(digits) <= _READ_DIGITS:
        return None
    if not all(character in "0123456789" for character in digits):
        return None
    return int(digits)


def _read_parts(text):
    """Return the fraction that the signs, digits and slash of the text give, or None."""
    amount = text.removeprefix("-")
    above, slash, below = amount.partition("/")
    p = _read_digits(above)
    q = _read_digits(below) if slash == "/" else 1
    if p is None or q is None or q == 0:
        return None
    return make(-p if text.startswith("-") else p, q)


def read_ratio(text):
    """Return the fraction that has this text."""
    found = _read_parts(text)
    # A fraction has one text only, so this refuses leading zeros, common divisors, "-0" and "3/1".
    if found is None or _text_of(found) != text:
        raise InvalidNumber(text)
    return found


def _text_of(a):
    if a[1] == 1:
        return str(a[0])
    return f"{a[0]}/{a[1]}"


def _has_too_many_digits(number):
    """Return True if the number has more than 1000 digits."""
    # Counting digits by str would fail: Python does not write very long integers.
    limit = 1
    for _ in range(20):
        limit = limit * 10 ** 50
    return abs(number) >= limit


def show_ratio(a):
    """Return the text of the fraction."""
    if _has_too_many_digits(a[0]) or _has_too_many_digits(a[1]):
        raise TooLarge("digits")
    return _text_of(a)


def show_ratios(values):
    """Return the list of the texts of the fractions."""
    return [show_ratio(item) for item in values]
