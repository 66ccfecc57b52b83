"""Fractions as pairs of integers."""

from math import gcd


def lowest(n, d):
    """The fraction n / d, for d above 0, in lowest terms."""
    common = gcd(n, d)
    return n // common, d // common
