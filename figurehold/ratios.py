"""Fractions as pairs of integers."""

from math import gcd

from figurehold.kinds import is_integer, is_sequence


def lowest(n, d):
    """The fraction n / d, for d above 0, in lowest terms."""
    common = gcd(n, d)
    return n // common, d // common


def is_fraction(thing):
    """Whether it is a pair (n, d) of integers, d above 0, without a common divisor above 1."""
    if not is_sequence(thing) or len(thing) != 2:
        return False
    n, d = thing
    return is_integer(n) and is_integer(d) and d > 0 and gcd(n, d) == 1
