"""Ways of reckoning, so that each formula of points and claims is written just once.

Each has the same methods: tables stand for polynomials, integers for their values,
residues for these modulo a prime, and degrees tell how high a polynomial's exponents
may be.
"""

from figurehold.tables import minus, number, plus, scaled, times

# 3 to the power of (PRIME - 1) // 2 is -1 modulo PRIME. So PRIME is a prime (Proth's
# theorem), and the powers of 3 come again after 2 ** 700 of them at the soonest.
PRIME = 223 * (2 ** 50) ** 14 + 1
BASE = 3


class Tables:
    """Reckoning with polynomials as tables."""

    def number(self, k):
        """The table of an integer."""
        return number(k)

    def scaled(self, p, k):
        """p times the integer k."""
        return scaled(p, k)

    def plus(self, p, q):
        """The sum."""
        return plus(p, q)

    def minus(self, p, q):
        """p less q."""
        return minus(p, q)

    def times(self, p, q):
        """The product."""
        return times(p, q)


class Integers:
    """Reckoning with integers."""

    def number(self, k):
        """The integer itself."""
        return k

    def scaled(self, p, k):
        """p times the integer k."""
        return p * k

    def plus(self, p, q):
        """The sum."""
        return p + q

    def minus(self, p, q):
        """p less q."""
        return p - q

    def times(self, p, q):
        """The product."""
        return p * q


class Residues(Integers):
    """Reckoning with integers that count just modulo PRIME."""

    def times(self, p, q):
        """The product, kept small."""
        return p * q % PRIME


class Degrees:
    """Reckoning with bounds of degrees: no degree of a polynomial is above its bound."""

    def number(self, k):
        """The bound for an integer."""
        return 0

    def scaled(self, p, k):
        """The bound for a multiple."""
        return p

    def plus(self, p, q):
        """The bound for a sum."""
        return max(p, q)

    def minus(self, p, q):
        """The bound for a difference."""
        return max(p, q)

    def times(self, p, q):
        """The bound for a product."""
        return p + q
