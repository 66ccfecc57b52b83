"""Whether points of two constructions are the same, and what figure parts them."""

from figurehold.errors import BadPoint, BadValue
from figurehold.searching import first_values
from figurehold.steps import needed
from figurehold.vanishing import zero_claims


def same_point(one, p, other, q):
    """Whether p of one and q of other have the same place in every figure of both."""
    if one.unknowns() != other.unknowns():
        raise BadValue(2)
    for construction, point in ((one, p), (other, q)):
        if not construction.has(point):
            raise BadPoint(point)
    lots = (needed(one.steps(), (p,)), needed(other.steps(), (q,)))
    return len(zero_claims(lots, [_claim(p, q)])) == 1


def parting(one, p, other, q):
    """The first figure of both in which p and q have unlike places, or None if they are the same."""
    if same_point(one, p, other, q):
        return None
    return first_values((one.steps(), other.steps()), _claim(p, q))


def _claim(p, q):
    """That p of the first construction is q of the second one."""
    return "same", (0, p), (1, q)
