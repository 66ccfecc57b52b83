"""Whether all polynomials of a claim are 0, without multiplying them out."""

from figurehold.making import made
from figurehold.relations import said
from figurehold.rings import BASE, PRIME, Degrees, Residues
from figurehold.steps import needed, new_unknowns

# The document hands in no claim of which a polynomial has more terms.
MOST_TERMS = 2000


def vanishes(construction, claim):
    """Whether all polynomials of the claim are 0.

    Moved, turned or stretched figures stay figures, with the same claims: so it is enough
    to look at those whose first free point is (0, 0) and whose second one is (1, 0). What
    is not 0 there has at most so many terms, with coefficients that are below PRIME in
    size. It is reckoned, modulo PRIME, at the powers of one point at which no two of its
    monomials are alike: it cannot be 0 at as many of them as it has terms (Vandermonde).
    """
    steps = needed(construction.steps(), claim[1:])
    names, numbers = _settled(steps)
    degrees = [_degree(steps, claim, name, numbers) for name in names]
    terms = 1
    for degree in degrees:
        terms = min(MOST_TERMS, terms * (degree + 1))
    factors = {}
    factor = BASE
    for name, degree in zip(names, degrees):
        factors[name] = factor
        factor = _powered(factor, degree + 1)
    for _ in range(terms):
        for name in names:
            numbers[name] = numbers[name] * factors[name] % PRIME
        if any([part % PRIME != 0 for part in _reckoned(Residues(), steps, claim, numbers)]):
            return False
    return True


def _settled(steps):
    """The unknowns that stay open, and a number for each unknown (1 for the open ones)."""
    names = []
    numbers = {}
    for step in steps:
        for name in new_unknowns(step):
            numbers[name] = 1
            names.append(name)
    settled = [step for step in steps if step[0] == "free"][:2]
    for x, step in enumerate(settled):
        for name, number in zip(new_unknowns(step), (x, 0)):
            numbers[name] = number
            names.remove(name)
    return names, numbers


def _degree(steps, claim, name, numbers):
    """A bound of the degree of the claim's polynomials in an unknown."""
    bounds = {other: 1 if other == name else 0 for other in numbers}
    return max(_reckoned(Degrees(), steps, claim, bounds))


def _reckoned(ring, steps, claim, unknowns):
    """What the claim says, with these things of the ring for the unknowns."""
    triples = {}
    for step in steps:
        triples[step[1]] = made(ring, step, triples, unknowns)
    return said(ring, claim, triples)


def _powered(base, exponent):
    """The base to the power of a number, modulo PRIME."""
    total = 1
    square = base
    while exponent > 0:
        if exponent % 2 == 1:
            total = total * square % PRIME
        square = square * square % PRIME
        exponent = exponent // 2
    return total
