"""Figures in numbers: triples of integers, for values of the unknowns."""

from math import gcd

from figurehold.errors import Broken
from figurehold.kinds import is_integer, is_sequence
from figurehold.making import made, parted
from figurehold.ratios import is_fraction
from figurehold.rings import Integers
from figurehold.steps import new_unknowns


def fractions_of(unknowns, values):
    """By the unknowns: the fractions that the values tell, or None for what are no values."""
    if not is_sequence(values) or len(values) != len(unknowns):
        return None
    found = {}
    for pair in values:
        if not is_sequence(pair) or len(pair) != 2:
            return None
        name, worth = pair
        if not isinstance(name, str) or name not in unknowns or name in found:
            return None
        if is_integer(worth):
            found[name] = (worth, 1)
        elif is_fraction(worth):
            found[name] = (worth[0], worth[1])
        else:
            return None
    return found


def reckoned(step, triples, fractions):
    """The triple of the step's new point; its W is 0 if the point cannot be made."""
    named = [fractions[name] for name in new_unknowns(step)]
    if step[0] == "free":
        (n, d), (m, e) = named
        return _lowered((n * e, m * d, d * e))
    if step[0] == "slide":
        n, d = named[0]
        return _lowered(parted(Integers(), triples[step[2]], triples[step[3]], n, d))
    return _lowered(made(Integers(), step, triples, {}))


def figure(construction, fractions):
    """By the points: their triples; Broken at the first point that cannot be made."""
    triples = {}
    for step in construction.steps():
        triple = reckoned(step, triples, fractions)
        if triple[2] == 0:
            raise Broken(step[1])
        triples[step[1]] = triple
    return triples


def _lowered(triple):
    """The triple of the same point without common divisors, its W not below 0."""
    x, y, w = triple
    common = gcd(x, y, w)
    if common == 0:
        return triple
    if w < 0:
        common = -common
    return x // common, y // common, w // common
