"""Ratios: exact numbers, each as one tuple (n, d)."""

from math import gcd

from rivalprices.errors import InvalidRatio

ZERO = (0, 1)
ONE = (1, 1)


def _is_integer(part):
    # True and False count as integers in Python, but not in the program.
    return isinstance(part, int) and not isinstance(part, bool)


def _lowest(n, d):
    """The one form of n divided by d, for a d of at least 1."""
    part = gcd(n, d)
    return (n // part, d // part)


def ratio(n, d=1):
    """The ratio that is equal to n divided by d."""
    if not _is_integer(n) or not _is_integer(d):
        raise InvalidRatio("a part is not an integer")
    if d < 1:
        raise InvalidRatio("the second part is below 1")
    return _lowest(n, d)


def add(a, b):
    """The sum of two ratios."""
    return _lowest(a[0] * b[1] + b[0] * a[1], a[1] * b[1])


def sub(a, b):
    """The difference of two ratios."""
    return _lowest(a[0] * b[1] - b[0] * a[1], a[1] * b[1])


def times(a, b):
    """The product of two ratios."""
    return _lowest(a[0] * b[0], a[1] * b[1])


def over(a, b):
    """The quotient of two ratios."""
    if b[0] == 0:
        raise InvalidRatio("a quotient by 0")
    if b[0] < 0:
        return _lowest(-a[0] * b[1], a[1] * -b[0])
    return _lowest(a[0] * b[1], a[1] * b[0])


def less(a, b):
    """Whether the first ratio is less than the second one."""
    return a[0] * b[1] < b[0] * a[1]


def at_most(a, b):
    """Whether the first ratio is not greater than the second one."""
    return a[0] * b[1] <= b[0] * a[1]


def sign(a):
    """1, 0 or -1 for a ratio above 0, 0, or below 0."""
    if a[0] > 0:
        return 1
    if a[0] < 0:
        return -1
    return 0
