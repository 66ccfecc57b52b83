"""Whether the polynomials of claims are 0, without multiplying them out."""

from figurehold.making import made
from figurehold.relations import said, within
from figurehold.rings import BASE, PRIME, Degrees, Residues
from figurehold.steps import needed, new_unknowns

# The document hands in no claim of which a polynomial has more terms.
MOST_TERMS = 2000


def vanishes(construction, claim):
    """Whether all polynomials of the claim are 0."""
    lots = (needed(construction.steps(), claim[1:]),)
    return len(zero_claims(lots, [within(claim)])) == 1


def zero_claims(lots, claims):
    """Those of the claims of which all polynomials are 0.

    The lots are the steps of constructions over the same unknowns; the claims, no two of
    them alike, are of a word and pairs (number of the lot, point).

    Moved, turned or stretched figures stay figures, with the same claims: so it is enough
    to look at those whose first free point is (0, 0) and whose second one is (1, 0). What
    is not 0 there has at most so many terms, with coefficients that are below PRIME in
    size. It is reckoned, modulo PRIME, at the powers of one point at which no two of its
    monomials are alike: it cannot be 0 at as many of them as it has terms (Vandermonde).
    """
    names, numbers = _settled(lots)
    terms = {claim: 1 for claim in claims}
    factors = {}
    factor = BASE
    for name in names:
        degrees = _degrees(lots, claims, name, numbers)
        for claim in claims:
            terms[claim] = min(MOST_TERMS, terms[claim] * (degrees[claim] + 1))
        factors[name] = factor
        factor = _powered(factor, max(list(degrees.values()), default=0) + 1)
    left = list(claims)
    at = 0
    while [claim for claim in left if terms[claim] > at]:
        for name in names:
            numbers[name] = numbers[name] * factors[name] % PRIME
        triples = _reckoned(Residues(), lots, numbers)
        left = [claim for claim in left if terms[claim] <= at or _is_zero(claim, triples)]
        at = at + 1
    return left


def _settled(lots):
    """The unknowns that stay open, and a number for each unknown (1 for the open ones)."""
    names = []
    numbers = {}
    free = {}
    for steps in lots:
        for step in steps:
            for name in new_unknowns(step):
                if name not in numbers:
                    names.append(name)
                numbers[name] = 1
            if step[0] == "free":
                free[step] = True
    for x, step in enumerate(list(free)[:2]):
        for name, number in zip(new_unknowns(step), (x, 0)):
            numbers[name] = number
            names.remove(name)
    return names, numbers


def _degrees(lots, claims, name, numbers):
    """By the claims: a bound of the degree of their polynomials in an unknown."""
    bounds = {other: 1 if other == name else 0 for other in numbers}
    triples = _reckoned(Degrees(), lots, bounds)
    return {claim: max(said(Degrees(), claim, triples)) for claim in claims}


def _reckoned(ring, lots, unknowns):
    """By pairs (number of the lot, point): the triples, with these things of the ring for unknowns."""
    found = {}
    for at, steps in enumerate(lots):
        triples = {}
        for step in steps:
            triples[step[1]] = made(ring, step, triples, unknowns)
            found[(at, step[1])] = triples[step[1]]
    return found


def _is_zero(claim, triples):
    """Whether what the claim says is 0 modulo PRIME."""
    return all([part % PRIME == 0 for part in said(Residues(), claim, triples)])


def _powered(base, exponent):
    """The base to the power of a number, modulo PRIME."""
    total = 1
    square = base
    while exponent > 0:
        if exponent % 2 == 1:
            total = total * square % PRIME
        square = square * square % PRIME
        exponent = exponent // 2
    return total
